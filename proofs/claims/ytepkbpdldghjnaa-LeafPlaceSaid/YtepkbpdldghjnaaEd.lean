/-
  Calls proved apart; a run in parts.
-/
import Derived.Test.YtepkbpdldghjnaaEc
set_option linter.unusedVariables false
set_option linter.unusedSimpArgs false
set_option linter.unnecessarySimpa false
noncomputable section
namespace Go.Proofs.Ytepkbpdldghjnaa.Ev
open Go Go.RowKit

/-! ### calls that are proved apart: closed arguments, a closed answer -/
mutual
def V.closed : V → Bool
  | .bool _ | .int _ _ | .str _ | .nilp | .nils | .nilmap | .nilFunc | .nilIface | .glob _ _ => true
  | .func _ a b => closeds a && closeds b
  | .iface _ v => v.closed
  | .agg cs => closeds cs
  | .tuple cs => closeds cs
  | .ptr _ _ | .slice _ _ _ _ | .map _ | .yield _ => false
def closeds : List V → Bool
  | [] => true
  | v :: vs => v.closed && closeds vs
end

mutual
theorem RV.closed {σ σ' : Sg} : ∀ (v : V) (x : Value), v.closed = true → RV σ v x → RV σ' v x
  | .bool b, x, _, r => r
  | .int k n, x, _, r => r
  | .str l, x, _, r => r
  | .nilp, x, _, r => r
  | .ptr i o, x, h, _ => by simp [V.closed] at h
  | .nils, x, _, r => r
  | .slice i o n c, x, h, _ => by simp [V.closed] at h
  | .nilmap, x, _, r => r
  | .map i, x, h, _ => by simp [V.closed] at h
  | .func fn a b, x, h, r => by
    simp only [V.closed, Bool.and_eq_true] at h
    simp only [RV] at r ⊢; obtain ⟨f, c, e, h1, h2⟩ := r; exact ⟨f, c, e, RVs.closed _ _ h.1 h1, RVs.closed _ _ h.2 h2⟩
  | .yield i, x, h, _ => by simp [V.closed] at h
  | .nilFunc, x, _, r => r
  | .iface t v, x, h, r => by
    simp only [V.closed] at h
    simp only [RV] at r ⊢; obtain ⟨y, e, h1⟩ := r; exact ⟨y, e, RV.closed _ _ h h1⟩
  | .nilIface, x, _, r => r
  | .agg cs, x, h, r => by
    simp only [V.closed] at h
    simp only [RV] at r ⊢; obtain ⟨a, e, h1⟩ := r; exact ⟨a, e, RVs.closed _ _ h h1⟩
  | .tuple cs, x, h, r => by
    simp only [V.closed] at h
    simp only [RV] at r ⊢; obtain ⟨a, e, h1⟩ := r; exact ⟨a, e, RVs.closed _ _ h h1⟩
  | .glob g o, x, _, r => r
theorem RVs.closed {σ σ' : Sg} : ∀ (vs : List V) (l : List Value), closeds vs = true → RVs σ vs l → RVs σ' vs l
  | [], l, _, r => r
  | v :: vs, l, h, r => by
    simp only [closeds, Bool.and_eq_true] at h
    simp only [RVs] at r ⊢; obtain ⟨x, rr, e, h1, h2⟩ := r; exact ⟨x, rr, e, RV.closed _ _ h.1 h1, RVs.closed _ _ h.2 h2⟩
end

structure Ext where
  f : FuncId
  args : List V
  v : V

def findX : List Ext → FuncId → List V → Option V
  | [], _, _ => none
  | e :: es, f, args => match Nat.beq e.f f with
    | true => match sames e.args args with
      | true => some e.v
      | false => findX es f args
    | false => findX es f args

def patchE (E : List Ext) (cf : CF) : CF := fun f args st =>
  match findX E f args with
  | some v => some (.ok v, st)
  | none => cf f args st

def Ext.ok (P : Program) (s0 : St) (e : Ext) : Prop :=
  closeds e.args = true ∧ e.v.closed = true ∧ ∀ (w : World) (xs : Array Value) (σ : Sg), (∃ σ0, Rel w σ0 s0 w) → RVs σ e.args xs.toList →
    (∀ w, (callFunc e.f xs).run P w = .ok (.enter e.f xs) w) ∧
    ∀ cs, ∃ z w' fr, Below w.heap.size w w' ∧ RV σ e.v z ∧ Steps P (lone (Frame.enter P e.f xs .normal) cs w) (lone fr cs w') ∧ fr.fn = e.f ∧ fr.leaving P w' (.returned z)

def ExtOk (P : Program) (s0 : St) : List Ext → Prop
  | [] => True
  | e :: es => e.ok P s0 ∧ ExtOk P s0 es

def extAt (P : Program) (n : Nat) (s0 : St) (e : Ext) : Bool :=
  match closeds e.args, e.v.closed with
  | true, true => match callF P (runK P noPt n) e.f e.args s0 with
    | some (.ok v, _) => V.same v e.v
    | _ => false
  | _, _ => false

theorem ext_of {P : Program} {n : Nat} {s0 : St} {e : Ext} (h : extAt P n s0 e = true) : e.ok P s0 := by
  unfold extAt at h
  rw [runK_eq] at h
  split at h
  · rename_i h1 h2
    split at h
    · rename_i v st' hc
      obtain rfl := same_sound h
      refine ⟨h1, h2, fun w xs σ hB ha => ?_⟩
      obtain ⟨σ0, hR⟩ := hB
      obtain ⟨k1, k2⟩ := XOk.calls (run_sound P w (pt := noPt) (fun _ _ _ h => h) n) e.f e.args _ _ _ hc σ0 w xs hR (RVs.closed _ _ h1 ha)
      refine ⟨k1, fun cs => ?_⟩
      obtain ⟨σ', w', fr, r1, _, hst, hfn, z, hz, hl⟩ := k2 cs
      exact ⟨z, w', fr, r1.below, RV.closed _ _ h2 hz, hst, hfn, hl⟩
    · cases h
  · cases h

theorem findX_spec {P : Program} {s0 : St} : ∀ {E : List Ext} {f : FuncId} {args : List V} {v : V}, findX E f args = some v → ExtOk P s0 E → ∃ e : Ext, e.ok P s0 ∧ e.f = f ∧ e.args = args ∧ e.v = v
  | [], f, args, v, h, _ => by cases h
  | e :: es, f, args, v, h, k => by
    simp only [findX] at h
    split at h
    · rename_i h1
      split at h
      · rename_i h2
        have : e.args = args := by
          have key : ∀ a b : List V, sames a b = true → a = b := by
            intro a
            induction a with
            | nil => intro b hb; cases b with
              | nil => rfl
              | cons _ _ => simp [sames] at hb
            | cons x a ih => intro b hb; cases b with
              | nil => simp [sames] at hb
              | cons y b =>
                simp only [sames, Bool.and_eq_true] at hb
                rw [same_sound hb.1, ih b hb.2]
          exact key _ _ h2
        exact ⟨e, k.1, Nat.eq_of_beq_eq_true h1, this, Option.some.inj h⟩
      · exact findX_spec h k.2
    · exact findX_spec h k.2

/-- the tables are there in every later world -/
theorem Rel.later {W0 : World} {σ : Sg} {s0 : St} {w : World} (h : Rel W0 σ s0 W0) (hb : Below W0.heap.size W0 w) : Rel w σ s0 w where
  below := Below.refl _ _
  dom := h.dom
  blk i p e := by
    obtain ⟨h1, h2⟩ := h.blk i p e
    refine ⟨.inr ?_, Nat.lt_of_lt_of_le h2 hb.size⟩
    rcases h1 with h1 | h1
    · omega
    · exact h1
  obj i p o e ho := (h.obj i p o e ho).congr (hb.block _ (h.blk i p e).2)
  sep := h.sep
  glob g t k v a b := by
    obtain ⟨c, x, d, e⟩ := h.glob g t k v a b
    refine ⟨c, x, ?_, e⟩
    have hg : g < W0.heap.size := by
      unfold World.cell? at d
      simp only at d
      split at d
      · rename_i hh; exact (Array.getElem?_eq_some_iff.1 hh).1
      · cases d
    unfold World.cell? at d ⊢
    simp only at d ⊢
    rw [hb.block g hg]; exact d

theorem Rel.past {W0 : World} {σ : Sg} {st : St} {w w' : World} (h : Rel W0 σ st w) (hb : Below w.heap.size w w') : Rel W0 σ st w' where
  below := ⟨hb.os.trans h.below.os, hb.tape.trans h.below.tape, hb.output.trans h.below.output, Nat.le_trans h.below.size hb.size, fun k hk => by rw [hb.block k (Nat.lt_of_lt_of_le hk h.below.size)]; exact h.below.block k hk⟩
  dom := h.dom
  blk i p e := ⟨(h.blk i p e).1, Nat.lt_of_lt_of_le (h.blk i p e).2 hb.size⟩
  obj i p o e ho := (h.obj i p o e ho).congr (hb.block _ (h.blk i p e).2)
  sep := h.sep
  glob := h.glob

theorem patchE_ok {P : Program} {W0 : World} {s0 : St} {E : List Ext} (hE : ExtOk P s0 E) (hB : ∃ σ, Rel W0 σ s0 W0) {cf : CF} (hc : CFok P W0 cf) : CFok P W0 (patchE E cf) := by
  intro f args st r st' h
  unfold patchE at h
  split at h
  · rename_i v hf
    cases h
    obtain ⟨e, he, rfl, rfl, rfl⟩ := findX_spec hf hE
    intro σ w args' hR ha
    obtain ⟨σ0, hB⟩ := hB
    obtain ⟨_, _, k⟩ := he
    obtain ⟨k1, k2⟩ := k w args' σ ⟨σ0, hB.later hR.below⟩ ha
    refine ⟨k1, fun cs => ?_⟩
    obtain ⟨z, w', fr, hb, hz, hst, hfn, hl⟩ := k2 cs
    exact ⟨σ, w', fr, hR.past hb, .refl _ _, hst, hfn, z, hz, hl⟩
  · exact hc f args st r st' h
end Go.Proofs.Ytepkbpdldghjnaa.Ev

namespace Go.Proofs.Ytepkbpdldghjnaa.Ev
open Go Go.RowKit

/-! ### a run in parts: where a frame is -/
inductive Dir where
  | lft | rgt | thn | els | inn

def kOf (body : Code) : List Dir → Option (Code × List Item)
  | [] => some (body, [])
  | d :: p => match kOf body p with
    | none => none
    | some (c, k) => match d, c with
      | .lft, .seq x y => some (x, .code y :: k)
      | .rgt, .seq _ y => some (y, k)
      | .thn, .cond _ x _ => some (x, k)
      | .els, .cond _ _ y => some (y, k)
      | .inn, .block id x => some (x, .inBlock id :: k)
      | .inn, .scope x => some (x, .inScope x :: k)
      | .inn, .loop x => some (x, .inLoop x :: k)
      | _, _ => none

/-- where a frame goes on, behind the end of what is at a path -/
def nextOf (body : Code) : List Dir → Option (List Dir)
  | [] => none
  | .lft :: p => some (.rgt :: p)
  | .rgt :: p => nextOf body p
  | .thn :: p => nextOf body p
  | .els :: p => nextOf body p
  | .inn :: p => match kOf body p with
    | some (.loop _, _) => some (.inn :: p)
    | _ => nextOf body p

theorem next_sound {P : Program} {body : Code} {b : Frame} {a : Act} {cs : List Frame} {w : World} : ∀ (p : List Dir) (c : Code) (k : List Item), kOf body p = some (c, k) →
    (∀ p', nextOf body p = some p' → ∃ c' k', kOf body p' = some (c', k') ∧ Steps P (lone (Fat b a k) cs w) (lone (Fat b a (.code c' :: k')) cs w)) ∧
    (nextOf body p = none → Steps P (lone (Fat b a k) cs w) (lone (Fat b a []) cs w)) := by
  intro p
  induction p with
  | nil =>
    intro c k h
    simp only [kOf, Option.some.injEq, Prod.mk.injEq] at h
    obtain ⟨rfl, rfl⟩ := h
    exact ⟨fun p' hp => by simp [nextOf] at hp, fun _ => .refl _ _⟩
  | cons d p ih =>
    intro c k h
    simp only [kOf] at h
    split at h
    · cases h
    · rename_i c0 k0 h0
      obtain ⟨i1, i2⟩ := ih c0 k0 h0
      split at h
      · cases h
        exact ⟨fun p' hp => by simp only [nextOf, Option.some.injEq] at hp; subst hp; exact ⟨_, _, by simp only [kOf, h0], .refl _ _⟩, fun hp => by simp [nextOf] at hp⟩
      · cases h; exact ⟨fun p' hp => i1 p' (by simpa [nextOf] using hp), fun hp => i2 (by simpa [nextOf] using hp)⟩
      · cases h; exact ⟨fun p' hp => i1 p' (by simpa [nextOf] using hp), fun hp => i2 (by simpa [nextOf] using hp)⟩
      · cases h; exact ⟨fun p' hp => i1 p' (by simpa [nextOf] using hp), fun hp => i2 (by simpa [nextOf] using hp)⟩
      · cases h
        refine ⟨fun p' hp => ?_, fun hp => ?_⟩
        · simp only [nextOf, h0] at hp
          obtain ⟨c', k', h1, h2⟩ := i1 p' hp
          exact ⟨c', k', h1, .head s_inBlock h2⟩
        · simp only [nextOf, h0] at hp
          exact .head s_inBlock (i2 hp)
      · cases h
        refine ⟨fun p' hp => ?_, fun hp => ?_⟩
        · simp only [nextOf, h0] at hp
          obtain ⟨c', k', h1, h2⟩ := i1 p' hp
          exact ⟨c', k', h1, .head s_inScope h2⟩
        · simp only [nextOf, h0] at hp
          exact .head s_inScope (i2 hp)
      · cases h
        refine ⟨fun p' hp => ?_, fun hp => ?_⟩
        · simp only [nextOf, h0, Option.some.injEq] at hp
          subst hp
          exact ⟨c, .inLoop c :: k0, by simp only [kOf, h0], .one s_inLoop⟩
        · simp only [nextOf, h0] at hp; cases hp
      · cases h

/-- the block that an exit leaves -/
def exitAt (body : Code) (id : Nat) : List Dir → Option (List Dir)
  | [] => none
  | .inn :: p => match kOf body p with
    | some (.block i _, _) => match Nat.beq i id with
      | true => some p
      | false => exitAt body id p
    | _ => exitAt body id p
  | _ :: p => exitAt body id p

theorem exit_sound {body : Code} {id : Nat} : ∀ (p : List Dir) (c : Code) (k : List Item) (q : List Dir), kOf body p = some (c, k) → exitAt body id p = some q → ∃ c' k', kOf body q = some (c', k') ∧ exitTo id k = some k' := by
  intro p
  induction p with
  | nil => intro c k q _ h; simp [exitAt] at h
  | cons d p ih =>
    intro c k q h hq
    simp only [kOf] at h
    split at h
    · cases h
    · rename_i c0 k0 h0
      split at h
      · cases h; obtain ⟨c', k', h1, h2⟩ := ih _ k0 q h0 (by simpa [exitAt] using hq); exact ⟨c', k', h1, by simpa [exitTo] using h2⟩
      · cases h; exact ih _ k q h0 (by simpa [exitAt] using hq)
      · cases h; exact ih _ k q h0 (by simpa [exitAt] using hq)
      · cases h; exact ih _ k q h0 (by simpa [exitAt] using hq)
      · cases h
        rename_i i
        simp only [exitAt, h0] at hq
        split at hq
        · rename_i hi
          obtain rfl := Nat.eq_of_beq_eq_true hi
          obtain rfl := Option.some.inj hq
          exact ⟨_, _, h0, by simp [exitTo]⟩
        · rename_i hi
          have hi := Nat.ne_of_beq_eq_false hi
          obtain ⟨c', k', h1, h2⟩ := ih _ k0 q h0 hq
          have : (i == id) = false := by simp; omega
          exact ⟨c', k', h1, by simpa [exitTo, this] using h2⟩
      · cases h
        simp only [exitAt, h0] at hq
        obtain ⟨c', k', h1, h2⟩ := ih _ k0 q h0 hq
        exact ⟨c', k', h1, by simpa [exitTo] using h2⟩
      · cases h
        simp only [exitAt, h0] at hq
        obtain ⟨c', k', h1, h2⟩ := ih _ k0 q h0 hq
        exact ⟨c', k', h1, by simpa [exitTo] using h2⟩
      · cases h

structure Fr where
  f : FuncId
  path : List Dir
  ix : Option Nat
  fm : Fm

structure FrR (P : Program) (σ : Sg) (fr : Fr) (x : Frame) : Prop where
  ok : ∃ b a k c body fn todo, x = Fat b a todo ∧ RF σ fr.fm a b ∧ b.fn = fr.f ∧ b.kind = .normal ∧ b.roundOf = none ∧ P.funcs[fr.f]? = some fn ∧ fn.body = some body ∧ kOf body fr.path = some (c, k) ∧
    (match fr.ix with
      | none => todo = .code c :: k
      | some i => ∃ id ops, c = .region id ops false ∧ i ≤ ops.size ∧ todo = .inRegion ops (List.range' i (ops.size - i)) :: k)

theorem FrR.mono {P : Program} {σ σ' : Sg} (h : Le σ σ') {fr : Fr} {x : Frame} (r : FrR P σ fr x) : FrR P σ' fr x := by
  obtain ⟨b, a, k, c, body, fn, todo, h1, h2, h3⟩ := r.ok
  exact ⟨b, a, k, c, body, fn, todo, h1, h2.mono h, h3⟩

def FrsR (P : Program) (σ : Sg) : List Fr → List Frame → Prop
  | [], l => l = []
  | fr :: frs, l => ∃ x r, l = x :: r ∧ FrR P σ fr x ∧ FrsR P σ frs r
theorem FrsR.mono {P : Program} {σ σ' : Sg} (h : Le σ σ') : ∀ {frs : List Fr} {l : List Frame}, FrsR P σ frs l → FrsR P σ' frs l
  | [], l, r => r
  | fr :: frs, l, r => by
    simp only [FrsR] at r ⊢; obtain ⟨x, y, e, h1, h2⟩ := r; exact ⟨x, y, e, h1.mono h, FrsR.mono h h2⟩

/-- a machine comes to where a list of frames says -/
def At (P : Program) (W0 : World) (m : Machine) (cs : List Frame) (gl : Tri (Tri V)) (Q : Sg → St → Prop) (frs : List Fr) (st : St) : Prop :=
  ∃ σ w x xs, Rel W0 σ st w ∧ (GlobOk σ W0 gl ∧ Q σ st) ∧ FrsR P σ frs (x :: xs) ∧ Steps P m (lone x (xs ++ cs) w)

/-- what is kept is kept by every step -/
def Kept (Q : Sg → St → Prop) : Prop := ∀ σ st σ' st', Q σ st → Post σ st σ' st' → Q σ' st'

def memF (f : FuncId) : List FuncId → Bool
  | [] => false
  | x :: l => match Nat.beq f x with
    | true => true
    | false => memF f l

/-- is there a call of one of these functions? -/
def deepOp (deep : List FuncId) (o : Oper) : Bool :=
  match o.op with
  | .call c => match c.callee with
    | .value (.func g) => memF g deep
    | _ => false
  | _ => false
def anyDeep (deep : List FuncId) : List Oper → Bool
  | [] => false
  | o :: os => match deepOp deep o with
    | true => true
    | false => anyDeep deep os

def opOne (P : Program) (cf : CF) (yf : YF) (ops : Array Oper) (o : Oper) (fm : Fm) (st : St) : Option (Fm × St) :=
  match wantedV ops fm o with
  | some false => match fm.put o.dst (.tuple []) with
    | some fm' => some (fm', st)
    | none => none
  | some true => match isDefer o.op with
    | some _ => none
    | none => match evalOp P cf yf fm.rho o st with
      | some (.ok v, st') => match fm.put o.dst v with
        | some fm' => some (fm', st')
        | none => none
      | _ => none
  | none => none

def pushF (P : Program) (ops : Array Oper) (o : Oper) (fm : Fm) : Option Fr :=
  match wantedV ops fm o, o.op with
  | some true, .call c => match c.callee with
    | .value (.func g) => match rhoAll fm.rho c.args.toList, P.funcs[g]? with
      | some args, some fn => match enterable fn, fn.body with
        | true, some _ => some ⟨g, [], none, Fm.enter fn args⟩
        | _, _ => none
      | _, _ => none
    | _ => none
  | _, _ => none

/-- behind the end of a function's frame -/
def popV (P : Program) (self : SF) (f : FuncId) (fm : Fm) (st : St) : Option (V × St) :=
  match P.funcs[f]? with
  | none => none
  | some fn => match leaveF P self fn .ret fm st with
    | some (.ok v, st') => some (v, st')
    | _ => none

def popC (P : Program) (self : SF) (fr : Fr) (frs : List Fr) (st : St) : Option (List Fr × St) :=
  match frs with
  | [] => none
  | c :: cs => match popV P self fr.f fr.fm st with
    | none => none
    | some (v, st') => match c.ix, P.funcs[c.f]? with
      | some i, some fn => match fn.body with
        | some body => match kOf body c.path with
          | some (.region _ ops false, _) => match ops.toList.drop i with
            | o :: _ => match c.fm.put o.dst v with
              | some fm' => some ({ c with ix := some (i + 1), fm := fm' } :: cs, st')
              | none => none
            | [] => none
          | _ => none
        | none => none
      | _, _ => none

def goC (body : Code) (p : List Dir) (f : FuncId) (fm : Fm) (frs : List Fr) (st : St) : Option (List Fr × St) :=
  match nextOf body p with
  | some p' => some (⟨f, p', none, fm⟩ :: frs, st)
  | none => none

def wholeC (body : Code) (fr : Fr) (frs : List Fr) (r : RR) : Option (List Fr × St) :=
  match r with
  | some (.normal, fm', st') => goC body fr.path fr.f fm' frs st'
  | some (.exit id, fm', st') => match exitAt body id fr.path with
    | some q => goC body q fr.f fm' frs st'
    | none => none
  | _ => none

def stepC (P : Program) (cf : CF) (self : SF) (deep : List FuncId) (frs : List Fr) (st : St) : Option (List Fr × St) :=
  match frs with
  | [] => none
  | fr :: frs => match P.funcs[fr.f]? with
    | none => none
    | some fn => match fn.body with
      | none => none
      | some body => match kOf body fr.path with
        | none => none
        | some (c, _) => match fr.ix with
          | none => match c with
            | .seq _ _ => some (⟨fr.f, .lft :: fr.path, none, fr.fm⟩ :: frs, st)
            | .cond x _ _ => match fr.fm.rho x with
              | some (.bool true) => some (⟨fr.f, .thn :: fr.path, none, fr.fm⟩ :: frs, st)
              | some (.bool false) => some (⟨fr.f, .els :: fr.path, none, fr.fm⟩ :: frs, st)
              | _ => none
            | .block _ _ => some (⟨fr.f, .inn :: fr.path, none, fr.fm⟩ :: frs, st)
            | .scope _ => some (⟨fr.f, .inn :: fr.path, none, fr.fm⟩ :: frs, st)
            | .loop _ => some (⟨fr.f, .inn :: fr.path, none, fr.fm⟩ :: frs, st)
            | .ret => popC P self fr frs st
            | .region id ops false => match anyDeep deep ops.toList with
              | true => some (⟨fr.f, fr.path, some 0, fr.fm⟩ :: frs, st)
              | false => wholeC body fr frs (self (.region id ops false) fr.fm st)
            | c => wholeC body fr frs (self c fr.fm st)
          | some i => match c with
            | .region _ ops false => match ops.toList.drop i with
              | [] => goC body fr.path fr.f fr.fm frs st
              | o :: os => match deepOp deep o with
                | true => match pushF P ops o fr.fm with
                  | some fr' => some (fr' :: fr :: frs, st)
                  | none => none
                | false => match opOne P cf (yieldF self) ops o fr.fm st with
                  | some (fm', st') => some (⟨fr.f, fr.path, some (i + 1), fm'⟩ :: frs, st')
                  | none => none
            | _ => none

section
variable {P : Program} {W0 : World} {m : Machine} {cs : List Frame} {gl : Tri (Tri V)} {self : SF} {Q : Sg → St → Prop}

theorem goC_sound {σ : Sg} {st st' : St} {w : World} {body : Code} {p : List Dir} {c : Code} {k : List Item} {f : FuncId} {fm : Fm} {frs frs' : List Fr} {b : Frame} {a : Act} {xs : List Frame} {fn : Func}
    (hk : kOf body p = some (c, k)) (h : goC body p f fm frs st = some (frs', st')) (hR : Rel W0 σ st w) (hG : GlobOk σ W0 gl ∧ Q σ st) (hRF : RF σ fm a b) (hb : b.fn = f ∧ b.kind = .normal ∧ b.roundOf = none)
    (hf : P.funcs[f]? = some fn) (hbd : fn.body = some body) (hF : FrsR P σ frs xs) (hS : Steps P m (lone (Fat b a k) (xs ++ cs) w)) : At P W0 m cs gl Q frs' st' := by
  unfold goC at h
  split at h
  · rename_i p' hp
    cases h
    obtain ⟨c', k', h1, h2⟩ := (next_sound (P := P) (b := b) (a := a) (cs := xs ++ cs) (w := w) p c k hk).1 p' hp
    refine ⟨σ, w, Fat b a (.code c' :: k'), xs, hR, hG, ?_, hS.trans h2⟩
    simp only [FrsR]
    exact ⟨_, _, rfl, ⟨b, a, k', c', body, fn, _, rfl, hRF, hb.1, hb.2.1, hb.2.2, hf, hbd, h1, rfl⟩, hF⟩
  · cases h

theorem wholeC_sound (hQ : Kept Q) (hs : SOk P W0 self) {σ : Sg} {st st' : St} {w : World} {body : Code} {c : Code} {k : List Item} {fr : Fr} {frs frs' : List Fr} {b : Frame} {a : Act} {xs : List Frame} {fn : Func}
    (hk : kOf body fr.path = some (c, k)) (h : wholeC body fr frs (self c fr.fm st) = some (frs', st')) (hR : Rel W0 σ st w) (hG : GlobOk σ W0 gl ∧ Q σ st) (hRF : RF σ fr.fm a b) (hb : b.fn = fr.f ∧ b.kind = .normal ∧ b.roundOf = none)
    (hf : P.funcs[fr.f]? = some fn) (hbd : fn.body = some body) (hF : FrsR P σ frs xs) (hS : Steps P m (lone (Fat b a (.code c :: k)) (xs ++ cs) w)) : At P W0 m cs gl Q frs' st' := by
  unfold wholeC at h
  split at h
  · rename_i fm1 st1 hr
    obtain ⟨σ1, w1, a1, e1, g1, g2, g3, g4, g5⟩ := (hs c fr.fm st _ _ _ hr σ w a b k (xs ++ cs) hR hRF).1
    simp only [RX] at g1; subst g1
    exact goC_sound hk h g2 ⟨hG.1.mono g3.le, hQ _ _ _ _ hG.2 g3⟩ g4 hb hf hbd (hF.mono g3.le) (hS.trans g5)
  · rename_i id fm1 st1 hr
    split at h
    · rename_i q hq
      obtain ⟨σ1, w1, a1, e1, g1, g2, g3, g4, g5⟩ := (hs c fr.fm st _ _ _ hr σ w a b k (xs ++ cs) hR hRF).1
      simp only [RX] at g1; subst g1
      obtain ⟨c', k', h1, h2⟩ := exit_sound fr.path c k q hk hq
      obtain ⟨k0, hk0, hs0⟩ := g5
      exact goC_sound h1 h g2 ⟨hG.1.mono g3.le, hQ _ _ _ _ hG.2 g3⟩ g4 hb hf hbd (hF.mono g3.le) (hS.trans (hs0.trans (.one (s_exit (hk0.trans h2)))))
    · cases h
  · cases h

theorem popV_sound (hs : SOk P W0 self) {σ : Sg} {st st' : St} {w : World} {f : FuncId} {fm : Fm} {b : Frame} {a : Act} {v : V} (h : popV P self f fm st = some (v, st')) (hR : Rel W0 σ st w) (hRF : RF σ fm a b)
    (hb : b.fn = f ∧ b.kind = .normal ∧ b.roundOf = none) (k : List Item) (xs : List Frame) :
    ∃ σ' w' fr z, Rel W0 σ' st' w' ∧ Post σ st σ' st' ∧ RV σ' v z ∧ fr.leaving P w' (.returned z) ∧ fr.fn = f ∧ Steps P (lone (Fat b a (.code .ret :: k)) xs w) (lone fr xs w') := by
  unfold popV at h
  split at h
  · cases h
  · rename_i fn hf
    split at h
    · rename_i v' st1 hl
      cases h
      simp only [leaveF] at hl
      have h0 : Steps P (lone (Fat b a (.code .ret :: k)) xs w) (lone { b with tmps := a.tmps, todo := .code .ret :: k, defers := a.defers, mode := .returning } xs w) :=
        .one (step_lone_go (by simp [stepG, stepG.exec, Fat, hb.2.2]))
      split at hl
      · cases hl
      · rename_i st2 hu
        split at hl
        · rename_i vs hrs
          cases hl
          obtain ⟨σ2, w2, md2, r2, p2, hm2, s2⟩ := unwindF_sound hs (b := b) (cs := xs) (tmps := a.tmps) (todo := .code .ret :: k) fm.df none none st _ hu σ w a.defers .returning hR hRF.df rfl
          simp only [RMode] at hm2; subst hm2
          obtain ⟨z, ez, rz⟩ := run_results r2 (hRF.tm.mono p2.le) hrs
          exact ⟨σ2, w2, { b with tmps := a.tmps, todo := .code .ret :: k, defers := [], mode := .returning }, z, r2, p2, rz, ⟨rfl, rfl, hb.2.1, fn, by simp only; rw [hb.1]; exact hf, ez⟩, hb.1, h0.trans s2⟩
        · cases hl
      · cases hl
    · cases h

theorem opOne_sound {cf : CF} {yf : YF} (hcf : CFok P W0 cf) (hyf : YFok P W0 yf) {ops : Array Oper} {o : Oper} {i : Nat} {os : List Oper} {fm fm' : Fm} {st st' : St} {σ : Sg} {w : World} {a : Act} {b : Frame} {k : List Item} {xs : List Frame}
    (hd : ops.toList.drop i = o :: os) (h : opOne P cf yf ops o fm st = some (fm', st')) (hR : Rel W0 σ st w) (hF : RF σ fm a b) :
    ∃ σ' w' a', Rel W0 σ' st' w' ∧ Post σ st σ' st' ∧ RF σ' fm' a' b ∧
      Steps P (lone (Fat b a (.inRegion ops (List.range' i (ops.size - i)) :: k)) xs w) (lone (Fat b a' (.inRegion ops (List.range' (i + 1) (ops.size - (i + 1))) :: k)) xs w') := by
  have hi : i < ops.toList.length := by
    rcases Nat.lt_or_ge i ops.toList.length with h1 | h1
    · exact h1
    · rw [List.drop_of_length_le h1] at hd; cases hd
  have hi' : i < ops.size := by simpa using hi
  rw [List.drop_eq_getElem_cons hi] at hd
  injection hd with hd1 hd2
  have ho : ops[i]? = some o := by rw [← Array.getElem?_toList, List.getElem?_eq_getElem hi, hd1]
  have hrng : List.range' i (ops.size - i) = i :: List.range' (i + 1) (ops.size - (i + 1)) := by
    rw [show ops.size - i = (ops.size - (i + 1)) + 1 by omega, List.range'_succ]
  rw [hrng]
  have hrd := hF.tm.reads (ops := ops) (o := o)
  unfold opOne at h
  split at h
  · rename_i hwv
    have hw := wantedV_sound hwv hrd
    split at h <;> cases h
    rename_i hput
    exact ⟨σ, w, _, hR, .refl _ _, Fm.put_sound hput hF (RV.undef σ), .one (s_skipOp ho hw)⟩
  · rename_i hwv
    have hw := wantedV_sound hwv hrd
    split at h
    · cases h
    · split at h
      · rename_i v st1 hev
        split at h <;> cases h
        rename_i hput
        obtain ⟨σ1, w1, hR1, hP1, z, hz, hst⟩ := evalOp_sound (b := b) (k := k) (cs := xs) (rest := List.range' (i + 1) (ops.size - (i + 1))) hcf hyf hR hev (rho_reads hrd) ho hw
        exact ⟨σ1, w1, _, hR1, hP1, Fm.put_sound hput (hF.mono hP1.le) hz, hst⟩
      · cases h
  · cases h

theorem pushF_sound {ops : Array Oper} {o : Oper} {i : Nat} {os : List Oper} {fm : Fm} {fr : Fr} {σ : Sg} {w : World} {a : Act} {b : Frame} {k : List Item} {xs : List Frame}
    (hd : ops.toList.drop i = o :: os) (h : pushF P ops o fm = some fr) (hF : RF σ fm a b) :
    ∃ x, FrR P σ fr x ∧ Steps P (lone (Fat b a (.inRegion ops (List.range' i (ops.size - i)) :: k)) xs w) (lone x (Fat b a (.inRegion ops (List.range' i (ops.size - i)) :: k) :: xs) w) := by
  have hi : i < ops.toList.length := by
    rcases Nat.lt_or_ge i ops.toList.length with h1 | h1
    · exact h1
    · rw [List.drop_of_length_le h1] at hd; cases hd
  rw [List.drop_eq_getElem_cons hi] at hd
  injection hd with hd1 hd2
  have ho : ops[i]? = some o := by rw [← Array.getElem?_toList, List.getElem?_eq_getElem hi, hd1]
  have hi' : i < ops.size := by simpa using hi
  have hrng : List.range' i (ops.size - i) = i :: List.range' (i + 1) (ops.size - (i + 1)) := by
    rw [show ops.size - i = (ops.size - (i + 1)) + 1 by omega, List.range'_succ]
  have hrd := hF.tm.reads (ops := ops) (o := o)
  unfold pushF at h
  split at h
  · rename_i c hwv hop
    have hw := wantedV_sound hwv hrd
    split at h
    · rename_i g hcal
      split at h
      · rename_i args fn hargs hf
        split at h
        · rename_i body hen hb
          cases h
          have hrho := rho_reads hrd
          rw [hop] at hrho
          simp only [Op.operands] at hrho
          have h3 := rhoAll_sound (σ := σ) (ρ' := a.eval) hargs (fun x hx => hrho x (by simp [Call.operands, hcal]; exact .inr (by simpa using hx)))
          have ha : RVs σ args (c.args.map a.eval).toList := by rw [Array.toList_map]; exact h3
          have hne : (fn.name == "runtime.NumGoroutine") = false := by simpa [enterable] using hen
          have hcall : (callFunc g (c.args.map a.eval)).run P w = .ok (.enter g (c.args.map a.eval)) w := by
            simp [callFunc, hf, hb]
            simpa using hne
          have hexec : (execOp a.eval o).run P w = .ok (.enter g (c.args.map a.eval)) w := by
            simp only [execOp, hop, resolve, hcal, Act.eval, Deferred.ofValue, Sem.run_bind, Sem.run_pure, Result.andThen_ok, invoke, Array.append_empty, Array.empty_append]
            exact hcall
          obtain ⟨b0, hb0⟩ : ∃ b0 : Frame, b0 = { fn := g, tmps := #[], todo := [], defers := [], mode := .run, kind := .normal, roundOf := none } := ⟨_, rfl⟩
          have henter : Frame.enter P g (c.args.map a.eval) .normal = Fat b0 { tmps := (c.args.map a.eval) ++ Array.replicate (fn.ntmps - (c.args.map a.eval).size) undef, defers := [] } [.code body] := by
            simp [Frame.enter, Fat, hf, hb, hb0]
          refine ⟨Frame.enter P g (c.args.map a.eval) .normal, ⟨b0, _, [], body, body, fn, _, henter, enter_RF ha (by rw [hb0]), by rw [hb0], by rw [hb0], by rw [hb0], hf, hb, rfl, rfl⟩, ?_⟩
          rw [hrng]
          exact .one (s_enter ho hw (.inl (by rw [hop]; intro c hc; cases hc)) hexec)
        · cases h
      · cases h
    · cases h
  · cases h

theorem stepC_sound (hQ : Kept Q) {cf : CF} (hs : SOk P W0 self) (hcf : CFok P W0 cf) {deep : List FuncId} {frs frs' : List Fr} {st st' : St} (h : stepC P cf self deep frs st = some (frs', st')) (hA : At P W0 m cs gl Q frs st) : At P W0 m cs gl Q frs' st' := by
  obtain ⟨σ, w, x, xs, hR, hG, hF, hS⟩ := hA
  cases frs with
  | nil => simp [stepC] at h
  | cons fr frs =>
    simp only [FrsR] at hF
    obtain ⟨x', xs', e, hx, hF⟩ := hF
    injection e with e1 e2
    subst e1 e2
    obtain ⟨b, a, k, c, body, fn, todo, rfl, hRF, q1, q2, q3, hf, hbd, hk, htodo⟩ := hx.ok
    have hyf := XOk.yields hs
    simp only [stepC, hf, hbd, hk] at h
    split at h
    · rename_i hix
      rw [hix] at htodo
      simp only at htodo
      subst htodo
      have simple : ∀ (p' : List Dir) (c' : Code) (k' : List Item), kOf body p' = some (c', k') → step P (lone (Fat b a (.code c :: k)) (xs ++ cs) w) = .next (lone (Fat b a (.code c' :: k')) (xs ++ cs) w) →
          At P W0 m cs gl Q (⟨fr.f, p', none, fr.fm⟩ :: frs) st := by
        intro p' c' k' h1 h2
        refine ⟨σ, w, Fat b a (.code c' :: k'), xs, hR, hG, ?_, hS.trans (.one h2)⟩
        simp only [FrsR]
        exact ⟨_, _, rfl, ⟨b, a, k', c', body, fn, _, rfl, hRF, q1, q2, q3, hf, hbd, h1, rfl⟩, hF⟩
      split at h
      · cases h; exact simple _ _ _ (by simp only [kOf, hk]) s_seq
      · rename_i xc thn els
        split at h
        · rename_i hc
          cases h
          have hcv := Fm.rho_sound hRF.tm _ _ hc
          simp only [RV] at hcv
          exact simple _ thn k (by simp only [kOf, hk]) ((s_cond hcv).trans (by simp))
        · rename_i hc
          cases h
          have hcv := Fm.rho_sound hRF.tm _ _ hc
          simp only [RV] at hcv
          exact simple _ els k (by simp only [kOf, hk]) ((s_cond hcv).trans (by simp))
        · cases h
      · cases h; exact simple _ _ _ (by simp only [kOf, hk]) s_block
      · cases h; exact simple _ _ _ (by simp only [kOf, hk]) s_scope
      · cases h; exact simple _ _ _ (by simp only [kOf, hk]) s_loop
      · unfold popC at h
        split at h
        · cases h
        · rename_i c2 cs2
          split at h
          · cases h
          · rename_i v st1 hpv
            obtain ⟨σ1, w1, fr1, z, hR1, le1, hz, hlv, hfn, hst⟩ := popV_sound hs hpv hR hRF ⟨q1, q2, q3⟩ k (xs ++ cs)
            split at h
            · rename_i i2 fn2 hix2 hf2
              split at h
              · rename_i body2 hbd2
                split at h
                · rename_i id2 ops2 k2' hk2
                  split at h
                  · rename_i o2 os2 hd2
                    split at h
                    · rename_i fm2 hput
                      cases h
                      simp only [FrsR] at hF
                      obtain ⟨y, ys, rfl, hy, hF⟩ := hF
                      obtain ⟨b2, a2, k2, c2', body2', fn2', todo2, rfl, hRF2, p1, p2, p3, hf2', hbd2', hk2b, htodo2⟩ := hy.ok
                      rw [hf2] at hf2'; obtain rfl := Option.some.inj hf2'
                      rw [hbd2] at hbd2'; obtain rfl := Option.some.inj hbd2'
                      rw [hk2] at hk2b
                      simp only [Option.some.injEq, Prod.mk.injEq] at hk2b
                      obtain ⟨rfl, rfl⟩ := hk2b
                      rw [hix2] at htodo2
                      simp only at htodo2
                      obtain ⟨id3, ops3, ec, hle, rfl⟩ := htodo2
                      injection ec with ec1 ec2
                      subst ec1 ec2
                      have hi : i2 < ops2.toList.length := by
                        rcases Nat.lt_or_ge i2 ops2.toList.length with h1 | h1
                        · exact h1
                        · rw [List.drop_of_length_le h1] at hd2; cases hd2
                      have hi' : i2 < ops2.size := by simpa using hi
                      rw [List.drop_eq_getElem_cons hi] at hd2
                      injection hd2 with hd3 hd4
                      have ho : ops2[i2]? = some o2 := by rw [← Array.getElem?_toList, List.getElem?_eq_getElem hi, hd3]
                      have hrng : List.range' i2 (ops2.size - i2) = i2 :: List.range' (i2 + 1) (ops2.size - (i2 + 1)) := by
                        rw [show ops2.size - i2 = (ops2.size - (i2 + 1)) + 1 by omega, List.range'_succ]
                      have hleave := step_leave_returned (c := Fat b2 a2 (.inRegion ops2 (List.range' i2 (ops2.size - i2)) :: k2')) (cs := ys ++ cs) hlv
                      rw [hrng, finish_Fat, ho] at hleave
                      have hfin := Fm.put_sound hput (hRF2.mono le1.le) hz
                      refine ⟨σ1, w1, Fat b2 (a2.put o2.dst z) (.inRegion ops2 (List.range' (i2 + 1) (ops2.size - (i2 + 1))) :: k2'), ys, hR1, ⟨hG.1.mono le1.le, hQ _ _ _ _ hG.2 le1⟩, ?_, ?_⟩
                      · simp only [FrsR]
                        refine ⟨_, _, rfl, ⟨b2, _, k2', _, body2, fn2, _, rfl, hfin, p1, p2, p3, hf2, hbd2, hk2, ?_⟩, hF.mono le1.le⟩
                        exact ⟨id2, ops2, rfl, by omega, rfl⟩
                      · refine hS.trans (hst.trans (.one ?_))
                        rw [List.cons_append, hrng]
                        exact hleave
                    · cases h
                  · cases h
                · cases h
              · cases h
            · cases h
      · rename_i id ops
        split at h
        · cases h
          refine ⟨σ, w, Fat b a (.inRegion ops (List.range ops.size) :: k), xs, hR, hG, ?_, hS.trans (.one s_region)⟩
          simp only [FrsR]
          refine ⟨_, _, rfl, ⟨b, a, k, _, body, fn, _, rfl, hRF, q1, q2, q3, hf, hbd, hk, ?_⟩, hF⟩
          exact ⟨id, ops, rfl, Nat.zero_le _, by rw [List.range_eq_range', Nat.sub_zero]⟩
        · exact wholeC_sound hQ hs hk h hR hG hRF ⟨q1, q2, q3⟩ hf hbd hF hS
      · exact wholeC_sound hQ hs hk h hR hG hRF ⟨q1, q2, q3⟩ hf hbd hF hS
    · rename_i i hix
      rw [hix] at htodo
      simp only at htodo
      obtain ⟨id, ops, rfl, hle, rfl⟩ := htodo
      simp only at h
      split at h
      · rename_i hd
        have hi : ops.size ≤ i := by
          have := congrArg List.length hd
          simp at this; omega
        have : List.range' i (ops.size - i) = [] := by rw [show ops.size - i = 0 by omega]; rfl
        rw [this] at hS
        exact goC_sound hk h hR hG hRF ⟨q1, q2, q3⟩ hf hbd hF (hS.trans (.one s_regionEnd))
      · rename_i o os hd
        have hi : i < ops.size := by
          rcases Nat.lt_or_ge i ops.toList.length with h1 | h1
          · simpa using h1
          · rw [List.drop_of_length_le h1] at hd; cases hd
        split at h
        · split at h <;> cases h
          rename_i fr' hpu
          obtain ⟨x, hx1, hx2⟩ := pushF_sound (w := w) (k := k) (xs := xs ++ cs) hd hpu hRF
          refine ⟨σ, w, x, Fat b a (.inRegion ops (List.range' i (ops.size - i)) :: k) :: xs, hR, hG, ?_, hS.trans hx2⟩
          simp only [FrsR]
          refine ⟨_, _, rfl, hx1, _, _, rfl, ⟨b, a, k, _, body, fn, _, rfl, hRF, q1, q2, q3, hf, hbd, hk, ?_⟩, hF⟩
          rw [hix]
          exact ⟨id, ops, rfl, hle, rfl⟩
        · split at h <;> cases h
          rename_i fm1 hop
          obtain ⟨σ1, w1, a1, hR1, le1, hRF1, hst⟩ := opOne_sound hcf hyf (k := k) (xs := xs ++ cs) hd hop hR hRF
          refine ⟨σ1, w1, Fat b a1 (.inRegion ops (List.range' (i + 1) (ops.size - (i + 1))) :: k), xs, hR1, ⟨hG.1.mono le1.le, hQ _ _ _ _ hG.2 le1⟩, ?_, hS.trans hst⟩
          simp only [FrsR]
          refine ⟨_, _, rfl, ⟨b, a1, k, _, body, fn, _, rfl, hRF1, q1, q2, q3, hf, hbd, hk, ?_⟩, hF.mono le1.le⟩
          exact ⟨id, ops, rfl, by omega, rfl⟩
end
end Go.Proofs.Ytepkbpdldghjnaa.Ev

namespace Go.Proofs.Ytepkbpdldghjnaa.Ev
open Go Go.RowKit

/-! ### what is forgotten between two parts -/
def triSub {α : Type} (q : α → α → Bool) : Tri α → Tri α → Bool
  | .nil, _ => true
  | .node _ _ _, .nil => false
  | .node l v r, .node l' v' r' => match (match v, v' with
      | none, _ => true
      | some x, some y => q x y
      | some _, none => false) with
    | true => match triSub q l l' with
      | true => triSub q r r'
      | false => false
    | false => false

theorem triSub_get {α : Type} {q : α → α → Bool} : ∀ {a b : Tri α}, triSub q a b = true → ∀ {k : Nat} {v : α}, a.get k = some v → ∃ v', b.get k = some v' ∧ q v v' = true
  | .nil, b, _, k, v, e => by rw [Tri.get_nil] at e; cases e
  | .node l x r, .nil, h, k, v, e => by simp [triSub] at h
  | .node l x r, .node l' x' r', h, k, v, e => by
    simp only [triSub] at h
    split at h
    · rename_i hv
      split at h
      · rename_i hl
        rcases Tri.three k with rfl | ⟨m, rfl⟩ | ⟨m, rfl⟩
        · rw [Tri.get_node0] at e ⊢
          subst e
          cases x' with
          | none => cases hv
          | some y => exact ⟨y, rfl, hv⟩
        · rw [Tri.get_nodel] at e ⊢; exact triSub_get hl e
        · rw [Tri.get_noder] at e ⊢; exact triSub_get h e
      · cases h
    · cases h

def triEq {α : Type} (q : α → α → Bool) : Tri α → Tri α → Bool
  | .nil, .nil => true
  | .node l v r, .node l' v' r' => match (match v, v' with
      | none, none => true
      | some x, some y => q x y
      | _, _ => false) with
    | true => match triEq q l l' with
      | true => triEq q r r'
      | false => false
    | false => false
  | _, _ => false

theorem triEq_eq {α : Type} {q : α → α → Bool} (hq : ∀ x y, q x y = true → x = y) : ∀ {a b : Tri α}, triEq q a b = true → a = b
  | .nil, .nil, _ => rfl
  | .nil, .node _ _ _, h => by simp [triEq] at h
  | .node _ _ _, .nil, h => by simp [triEq] at h
  | .node l v r, .node l' v' r', h => by
    simp only [triEq] at h
    split at h
    · rename_i hv
      split at h
      · rename_i hl
        rw [triEq_eq hq hl, triEq_eq hq h]
        cases v <;> cases v' <;> first | rfl | (cases hv; done) | (rw [hq _ _ hv])
      · cases h
    · cases h

def natsEq : List Nat → List Nat → Bool
  | [], [] => true
  | a :: x, b :: y => match Nat.beq a b with
    | true => natsEq x y
    | false => false
  | _, _ => false
theorem natsEq_eq : ∀ {x y : List Nat}, natsEq x y = true → x = y
  | [], [], _ => rfl
  | [], _ :: _, h => by simp [natsEq] at h
  | _ :: _, [], h => by simp [natsEq] at h
  | a :: x, b :: y, h => by
    simp only [natsEq] at h
    split at h
    · rename_i e; rw [Nat.eq_of_beq_eq_true e, natsEq_eq h]
    · cases h

def entsEq : List (V × V × Nat) → List (V × V × Nat) → Bool
  | [], [] => true
  | (k, v, b) :: x, (k', v', b') :: y => match V.same k k', V.same v v', Nat.beq b b' with
    | true, true, true => entsEq x y
    | _, _, _ => false
  | _, _ => false
theorem entsEq_eq : ∀ {x y : List (V × V × Nat)}, entsEq x y = true → x = y
  | [], [], _ => rfl
  | [], _ :: _, h => by simp [entsEq] at h
  | _ :: _, [], h => by simp [entsEq] at h
  | (k, v, b) :: x, (k', v', b') :: y, h => by
    simp only [entsEq] at h
    split at h
    · rename_i h1 h2 h3; rw [same_sound h1, same_sound h2, Nat.eq_of_beq_eq_true h3, entsEq_eq h]
    · cases h

def O.same : O → O → Bool
  | .row n c o t p, .row n' c' o' t' p' => Nat.beq n n' && (o == o') && (t == t') && natsEq p p' && triEq V.same c c'
  | .map es c, .map es' c' => Nat.beq c c' && entsEq es es'
  | .dfr a, .dfr b => a == b
  | .nilIter, .nilIter => true
  | .mIter m s l none t, .mIter m' s' l' none t' => Nat.beq m m' && Nat.beq s s' && natsEq l l' && Nat.beq t t'
  | _, _ => false

theorem O.same_eq {a b : O} (h : O.same a b = true) : a = b := by
  unfold O.same at h
  split at h
  · simp only [Bool.and_eq_true, beq_iff_eq, Nat.beq_eq] at h
    obtain ⟨⟨⟨⟨h1, h2⟩, h3⟩, h4⟩, h5⟩ := h
    rw [h1, h2, h3, natsEq_eq h4, triEq_eq (fun _ _ h => same_sound h) h5]
  · simp only [Bool.and_eq_true, Nat.beq_eq] at h
    rw [h.1, entsEq_eq h.2]
  · rw [beq_iff_eq.1 h]
  · rfl
  · simp only [Bool.and_eq_true, Nat.beq_eq] at h
    obtain ⟨⟨⟨h1, h2⟩, h3⟩, h4⟩ := h
    rw [h1, h2, natsEq_eq h3, h4]
  · cases h

end Go.Proofs.Ytepkbpdldghjnaa.Ev

namespace Go.Proofs.Ytepkbpdldghjnaa.Ev
open Go Go.RowKit

/-! ### an iteration over a map of several entries: all orders, up to the end of the call -/
def branches (fr : Fr) (frs : List Fr) (st : St) (dst : Option Tmp) (i m since : Nat) (seen : List Nat) (clock : Nat) : List (V × V × Nat) → Option (List (List Fr × St))
  | [] => some []
  | e :: es => match fr.fm.put dst (.tuple [.bool true, e.1, e.2.1]) with
    | some fm' => match branches fr frs st dst i m since seen clock es with
      | some l => some ((⟨fr.f, fr.path, some 1, fm'⟩ :: frs, stepSt st i m since seen e.2.2 clock) :: l)
      | none => none
    | none => none

theorem branches_mem {fr : Fr} {frs : List Fr} {st : St} {dst : Option Tmp} {i m since : Nat} {seen : List Nat} {clock : Nat} : ∀ {es : List (V × V × Nat)} {l : List (List Fr × St)}, branches fr frs st dst i m since seen clock es = some l →
    ∀ e ∈ es, ∃ fm', fr.fm.put dst (.tuple [.bool true, e.1, e.2.1]) = some fm' ∧ (⟨fr.f, fr.path, some 1, fm'⟩ :: frs, stepSt st i m since seen e.2.2 clock) ∈ l
  | [], l, _, e, he => by cases he
  | e0 :: es, l, h, e, he => by
    simp only [branches] at h
    split at h
    · rename_i fm' hp
      split at h
      · rename_i l' hl
        cases h
        rcases List.mem_cons.1 he with rfl | he
        · exact ⟨fm', hp, by simp⟩
        · obtain ⟨fm2, h1, h2⟩ := branches_mem hl e he; exact ⟨fm2, h1, List.mem_cons_of_mem _ h2⟩
      · cases h
    · cases h

def branchC (P : Program) (frs : List Fr) (st : St) : Option (List (List Fr × St)) :=
  match frs with
  | [] => none
  | fr :: frs => match fr.ix, P.funcs[fr.f]? with
    | none, some fn => match fn.body with
      | some body => match kOf body fr.path with
        | some (.region _ ops false, _) => match ops.toList with
          | o :: _ => match o.op, o.guard with
            | .next it false, none => match fr.fm.rho it with
              | some (.ptr i 0) => match st.mem.get i with
                | some (.mIter m since seen _ last) => match st.mem.get m with
                  | some (.map es clock) => match leftsV seen es, allOld since es, Nat.ble since last with
                    | e1 :: e2 :: l, true, true => branches fr frs st o.dst i m since seen clock (e1 :: e2 :: l)
                    | _, _, _ => none
                  | _ => none
                | _ => none
              | _ => none
            | _, _ => none
          | [] => none
        | _ => none
      | none => none
    | _, _ => none

theorem branchC_sound {P : Program} {W0 : World} {m0 : Machine} {cs : List Frame} {gl : Tri (Tri V)} {Q : Sg → St → Prop} (hQ : Kept Q) {frs : List Fr} {st : St} {L : List (List Fr × St)} (h : branchC P frs st = some L)
    (hA : At P W0 m0 cs gl Q frs st) : ∃ c ∈ L, At P W0 m0 cs gl Q c.1 c.2 := by
  obtain ⟨σ, w, x, xs, hR, hG, hF, hS⟩ := hA
  cases frs with
  | nil => simp [branchC] at h
  | cons fr frs =>
    simp only [FrsR] at hF
    obtain ⟨x', xs', e, hx, hF⟩ := hF
    injection e with e1 e2
    subst e1 e2
    obtain ⟨b, a, k, c, body, fn, todo, rfl, hRF, q1, q2, q3, hf, hbd, hk, htodo⟩ := hx.ok
    simp only [branchC, hf] at h
    split at h
    · rename_i fn' hix e
      cases e
      rw [hbd] at h
      simp only at h
      rw [hk] at h
      rw [hix] at htodo
      simp only at htodo
      subst htodo
      split at h
      · rename_i id ops k' e
        simp only [Option.some.injEq, Prod.mk.injEq] at e
        obtain ⟨rfl, rfl⟩ := e
        split at h
        · rename_i o os hops
          split at h
          · rename_i it hop hgd
            split at h
            · rename_i i hit
              split at h
              · rename_i m since seen cur last hg
                split at h
                · rename_i es clock hm
                  split at h
                  · rename_i el1 el2 l hl ho hs
                    have hrd := hRF.tm.reads (ops := ops) (o := o)
                    have hiv := rho_reads hrd it (by rw [hop]; simp [Op.operands]) _ hit
                    simp only [RV] at hiv
                    obtain ⟨p, hp, hiv⟩ := hiv
                    have ho0 : ops[0]? = some o := by rw [← Array.getElem?_toList, hops]; rfl
                    have hwt : Region.wanted o (yielded ops a.tmps) = true := by unfold Region.wanted; rw [hgd]
                    have hsz : ops.size = os.length + 1 := by have := congrArg List.length hops; simpa using this
                    obtain ⟨hb, hc⟩ := next_any (P := P) hR hp hg hm ho (Nat.le_of_ble_eq_true hs) o.type
                    rcases hc with ⟨h0, _⟩ | ⟨e, he, y, z, w', hrun, r1, r2, r3, r4⟩
                    · rw [hl] at h0; cases h0
                    · rw [hl] at he
                      obtain ⟨fm', hput, hmem⟩ := branches_mem h e he
                      refine ⟨_, hmem, ?_⟩
                      have hv : RV σ (.tuple [.bool true, e.1, e.2.1]) (.tuple #[.bool true, y, z]) := by
                        simp only [RV]; exact ⟨_, rfl, by simp only [RVs, RV]; exact ⟨_, _, rfl, rfl, _, _, rfl, r1, _, _, rfl, r2, rfl⟩⟩
                      have hfin := Fm.put_sound hput hRF hv
                      have hst := s_value (P := P) (b := b) (a := a) (k := k) (cs := xs ++ cs) (w := w) (w' := w') (rest := List.range' 1 (ops.size - 1)) (v := .tuple #[.bool true, y, z]) ho0 hwt (.inl (by rw [hop]; intro c hc; cases hc))
                        (by rw [hb] at hiv; simp only [Nat.add_zero] at hiv; simp [execOp, hop, hiv, hrun])
                      refine ⟨σ, w', Fat b (a.put o.dst (.tuple #[.bool true, y, z])) (.inRegion ops (List.range' 1 (ops.size - 1)) :: k), xs, r3, ⟨hG.1, hQ _ _ _ _ hG.2 r4⟩, ?_, hS.trans (.head s_region ?_)⟩
                      · simp only [FrsR]
                        refine ⟨_, _, rfl, ⟨b, _, k, _, body, fn, _, rfl, hfin, q1, q2, q3, hf, hbd, hk, ?_⟩, hF⟩
                        exact ⟨id, ops, rfl, by omega, rfl⟩
                      · have hrng : List.range ops.size = 0 :: List.range' 1 (ops.size - 1) := by
                          rw [hsz, List.range_eq_range', List.range'_succ]; rfl
                        rw [hrng]
                        exact .one hst
                  · cases h
                · cases h
              · cases h
            · cases h
          · cases h
        · cases h
      · cases h
    · cases h

def finalC (P : Program) (self : SF) (f : FuncId) (frs : List Fr) (st : St) : Option (V × St) :=
  match frs with
  | [fr] => match Nat.beq fr.f f, fr.ix, P.funcs[fr.f]? with
    | true, none, some fn => match fn.body with
      | some body => match kOf body fr.path with
        | some (.ret, _) => popV P self fr.f fr.fm st
        | _ => none
      | none => none
    | _, _, _ => none
  | _ => none

def exploreAll (g : List Fr → St → Option (List (V × St))) : List (List Fr × St) → Option (List (V × St))
  | [] => some []
  | c :: cs => match g c.1 c.2 with
    | some l => match exploreAll g cs with
      | some r => some (l ++ r)
      | none => none
    | none => none

def explore (P : Program) (cf : CF) (self : SF) (f : FuncId) : Nat → List Fr → St → Option (List (V × St))
  | 0, _, _ => none
  | k + 1, frs, st => match branchC P frs st with
    | some l => exploreAll (explore P cf self f k) l
    | none => match finalC P self f frs st with
      | some r => some [r]
      | none => match stepC P cf self [] frs st with
        | some (frs', st') => explore P cf self f k frs' st'
        | none => none

def Ends (P : Program) (W0 : World) (m : Machine) (cs : List Frame) (gl : Tri (Tri V)) (Q : Sg → St → Prop) (f : FuncId) (v : V) (st : St) : Prop :=
  ∃ σ w fr z, Rel W0 σ st w ∧ GlobOk σ W0 gl ∧ Q σ st ∧ RV σ v z ∧ fr.leaving P w (.returned z) ∧ fr.fn = f ∧ Steps P m (lone fr cs w)

theorem exploreAll_mem {g : List Fr → St → Option (List (V × St))} : ∀ {l : List (List Fr × St)} {L : List (V × St)}, exploreAll g l = some L → ∀ c ∈ l, ∃ L', g c.1 c.2 = some L' ∧ ∀ r ∈ L', r ∈ L
  | [], L, _, c, hc => by cases hc
  | c0 :: cs, L, h, c, hc => by
    simp only [exploreAll] at h
    split at h
    · rename_i l' hl
      split at h
      · rename_i r hr
        cases h
        rcases List.mem_cons.1 hc with rfl | hc
        · exact ⟨l', hl, fun r hr => List.mem_append_left _ hr⟩
        · obtain ⟨L', h1, h2⟩ := exploreAll_mem hr c hc
          exact ⟨L', h1, fun r hr => List.mem_append_right _ (h2 r hr)⟩
      · cases h
    · cases h

theorem explore_sound {P : Program} {W0 : World} {m0 : Machine} {cs : List Frame} {gl : Tri (Tri V)} {Q : Sg → St → Prop} (hQ : Kept Q) {cf : CF} {self : SF} (hs : SOk P W0 self) (hcf : CFok P W0 cf) {f : FuncId} :
    ∀ (k : Nat) {frs : List Fr} {st : St} {L : List (V × St)}, explore P cf self f k frs st = some L → At P W0 m0 cs gl Q frs st → ∃ r ∈ L, Ends P W0 m0 cs gl Q f r.1 r.2
  | 0, frs, st, L, h, _ => by cases h
  | k + 1, frs, st, L, h, hA => by
    simp only [explore] at h
    split at h
    · rename_i l hb
      obtain ⟨c, hc, hA⟩ := branchC_sound hQ hb hA
      obtain ⟨L', h1, h2⟩ := exploreAll_mem h c hc
      obtain ⟨r, hr, hE⟩ := explore_sound hQ hs hcf k h1 hA
      exact ⟨r, h2 r hr, hE⟩
    · split at h
      · rename_i r hfi
        cases h
        refine ⟨r, by simp, ?_⟩
        obtain ⟨σ1, w1, x, xs, hR1, hG1, hF1, hS1⟩ := hA
        unfold finalC at hfi
        split at hfi
        · rename_i fr
          simp only [FrsR] at hF1
          obtain ⟨x', xs', e, hx, rfl⟩ := hF1
          injection e with e1 e2
          subst e1 e2
          obtain ⟨b1, a1, k1, c1, body1, fn1, todo1, rfl, hRF, q1, q2, q3, hf1, hbd1, hk1, ht1⟩ := hx.ok
          split at hfi
          · rename_i fn2 hff hix hf2
            rw [hf2] at hf1; obtain rfl := Option.some.inj hf1
            rw [hbd1] at hfi
            simp only at hfi
            rw [hk1] at hfi
            rw [hix] at ht1
            simp only at ht1
            subst ht1
            split at hfi
            · rename_i k2 e
              simp only [Option.some.injEq, Prod.mk.injEq] at e
              obtain ⟨rfl, rfl⟩ := e
              obtain ⟨v, s2⟩ := r
              obtain ⟨σ2, w2, fr2, z, hR2, le2, hz, hlv, hfn, hst⟩ := popV_sound hs hfi hR1 hRF ⟨q1, q2, q3⟩ k1 cs
              exact ⟨σ2, w2, fr2, z, hR2, hG1.1.mono le2.le, hQ _ _ _ _ hG1.2 le2, hz, hlv, by rw [hfn]; exact Nat.eq_of_beq_eq_true hff, hS1.trans hst⟩
            · cases hfi
          · cases hfi
        · cases hfi
      · split at h
        · rename_i f1 s1 h1; exact explore_sound hQ hs hcf k h (stepC_sound hQ hs hcf h1 hA)
        · cases h

/-! ### one answer of several -/
/-- what two runs have in common: what was there ahead must be the same -/
def triFree {α : Type} (wt : α → Bool) (n0 c d : Nat) : Tri α → Bool
  | .nil => true
  | .node l v r => match (match v with | none => true | some x => match wt x with | true => Nat.ble n0 d | false => true) with
    | true => match triFree wt n0 (2 * c) (c + d) l with
      | true => triFree wt n0 (2 * c) (2 * c + d) r
      | false => false
    | false => false

/-- may it be forgotten? -/
def freeO {α : Type} (wt : α → Bool) (n0 d : Nat) : Option α → Bool
  | none => true
  | some x => match wt x with
    | true => Nat.ble n0 d
    | false => true

def triJ {α : Type} (wt : α → Bool) (q : α → α → Bool) (qj : α → α → Option α) (n0 c d : Nat) : Tri α → Tri α → Option (Tri α)
  | .nil, t => match triFree wt n0 c d t with
    | true => some .nil
    | false => none
  | .node l v r, .nil => match triFree wt n0 c d (.node l v r) with
    | true => some .nil
    | false => none
  | .node l v r, .node l' v' r' => match triJ wt q qj n0 (2 * c) (c + d) l l', triJ wt q qj n0 (2 * c) (2 * c + d) r r' with
    | some a, some b => match (match v, v' with | some x, some y => q x y | _, _ => false) with
      | true => some (.node a v b)
      | false => match freeO wt n0 d v, freeO wt n0 d v' with
        | true, true => some (.node a (match Nat.ble n0 d, v, v' with | true, some x, some y => qj x y | _, _, _ => none) b)
        | _, _ => none
    | _, _ => none

theorem triFree_spec {α : Type} {wt : α → Bool} {n0 : Nat} : ∀ {t : Tri α} {c d : Nat}, triFree wt n0 c d t = true → ∀ k x, c * k + d < n0 → t.get k = some x → wt x = false
  | .nil, c, d, _, k, x, _, e => by rw [Tri.get_nil] at e; cases e
  | .node l v r, c, d, h, k, x, hk, e => by
    simp only [triFree] at h
    split at h
    · rename_i hv
      split at h
      · rename_i hl
        rcases Tri.three k with rfl | ⟨m, rfl⟩ | ⟨m, rfl⟩
        · rw [Tri.get_node0] at e
          subst e
          simp only at hv
          split at hv
          · have := Nat.le_of_ble_eq_true hv; omega
          · assumption
        · rw [Tri.get_nodel] at e
          refine triFree_spec hl m x ?_ e
          have : 2 * c * m + (c + d) = c * (2 * m + 1) + d := by rw [Nat.mul_add, Nat.mul_one, ← Nat.mul_assoc, Nat.mul_comm c 2]; omega
          omega
        · rw [Tri.get_noder] at e
          refine triFree_spec h m x ?_ e
          have : 2 * c * m + (2 * c + d) = c * (2 * m + 2) + d := by rw [Nat.mul_add, ← Nat.mul_assoc, Nat.mul_comm c 2]; omega
          omega
      · cases h
    · cases h

theorem freeO_spec {α : Type} {wt : α → Bool} {n0 d : Nat} {v : Option α} (h : freeO wt n0 d v = true) (hd : d < n0) (x : α) (e : v = some x) : wt x = false := by
  subst e
  simp only [freeO] at h
  split at h
  · have := Nat.le_of_ble_eq_true h; omega
  · assumption

theorem triJ_spec {α : Type} {wt : α → Bool} {q : α → α → Bool} {qj : α → α → Option α} (hq : ∀ x y, q x y = true → x = y) {n0 : Nat} : ∀ {a b t : Tri α} {c d : Nat}, triJ wt q qj n0 c d a b = some t →
    ∀ k, (∀ v, t.get k = some v → ∃ x y, a.get k = some x ∧ b.get k = some y ∧ ((x = v ∧ y = v) ∨ (q x y = false ∧ qj x y = some v))) ∧ (c * k + d < n0 → ∀ x, wt x = true → (a.get k = some x → t.get k = some x) ∧ (b.get k = some x → t.get k = some x))
  | .nil, b, t, c, d, h, k => by
    simp only [triJ] at h
    split at h <;> cases h
    rename_i hf
    refine ⟨fun v e => (by rw [Tri.get_nil] at e; cases e), fun hk x hx => ⟨fun e => (by rw [Tri.get_nil] at e; cases e), fun e => ?_⟩⟩
    rw [triFree_spec hf k x hk e] at hx; cases hx
  | .node l v r, .nil, t, c, d, h, k => by
    simp only [triJ] at h
    split at h <;> cases h
    rename_i hf
    refine ⟨fun v e => (by rw [Tri.get_nil] at e; cases e), fun hk x hx => ⟨fun e => ?_, fun e => (by rw [Tri.get_nil] at e; cases e)⟩⟩
    rw [triFree_spec hf k x hk e] at hx; cases hx
  | .node l v r, .node l' v' r', t, c, d, h, k => by
    simp only [triJ] at h
    split at h
    · rename_i a b ha hb
      have hl := triJ_spec hq ha
      have hr := triJ_spec hq hb
      have main : ∀ u, t = .node a u b → (∀ z, u = some z → ∃ x y, v = some x ∧ v' = some y ∧ ((x = z ∧ y = z) ∨ (q x y = false ∧ qj x y = some z))) → (d < n0 → ∀ x, wt x = true → (v = some x → u = some x) ∧ (v' = some x → u = some x)) →
          (∀ z, t.get k = some z → ∃ x y, (Tri.node l v r).get k = some x ∧ (Tri.node l' v' r').get k = some y ∧ ((x = z ∧ y = z) ∨ (q x y = false ∧ qj x y = some z))) ∧
            (c * k + d < n0 → ∀ x, wt x = true → ((Tri.node l v r).get k = some x → t.get k = some x) ∧ ((Tri.node l' v' r').get k = some x → t.get k = some x)) := by
        intro u hu h1 h2
        subst hu
        rcases Tri.three k with rfl | ⟨m, rfl⟩ | ⟨m, rfl⟩
        · rw [Tri.get_node0, Tri.get_node0, Tri.get_node0]
          exact ⟨h1, fun hk => h2 (by omega)⟩
        · rw [Tri.get_nodel, Tri.get_nodel, Tri.get_nodel]
          have : 2 * c * m + (c + d) = c * (2 * m + 1) + d := by rw [Nat.mul_add, Nat.mul_one, ← Nat.mul_assoc, Nat.mul_comm c 2]; omega
          exact ⟨(hl m).1, fun hk => (hl m).2 (by omega)⟩
        · rw [Tri.get_noder, Tri.get_noder, Tri.get_noder]
          have : 2 * c * m + (2 * c + d) = c * (2 * m + 2) + d := by rw [Nat.mul_add, ← Nat.mul_assoc, Nat.mul_comm c 2]; omega
          exact ⟨(hr m).1, fun hk => (hr m).2 (by omega)⟩
      split at h
      · rename_i hxy
        cases h
        cases v with
        | none => simp at hxy
        | some x => cases v' with
          | none => simp at hxy
          | some y =>
            obtain rfl := hq _ _ hxy
            exact main (some x) rfl (fun z hz => ⟨x, x, rfl, rfl, .inl ⟨Option.some.inj hz, Option.some.inj hz⟩⟩) (fun _ z _ => ⟨fun e => e, fun e => e⟩)
      · rename_i hne
        split at h
        · rename_i h1 h2
          cases h
          refine main _ rfl (fun z hz => ?_) (fun hd x hx => ⟨fun e => ?_, fun e => ?_⟩)
          · split at hz
            · rename_i x y _
              exact ⟨x, y, rfl, rfl, .inr ⟨hne, hz⟩⟩
            · cases hz
          · rw [freeO_spec h1 hd x e] at hx; cases hx
          · rw [freeO_spec h2 hd x e] at hx; cases hx
        · cases h
    · cases h

/-- rows that differ in who shares their block alone -/
def joinO : O → O → Option O
  | .row n c o t _, .row n' c' o' t' _ => match Nat.beq n n' && (o == o') && (t == t') && triEq V.same c c' with
    | true => some (.row n c o t [])
    | false => none
  | _, _ => none

def peersOf : O → List Nat
  | .row _ _ _ _ p => p
  | _ => []

theorem joinO_spec {x y z : O} (h : joinO x y = some z) : ∃ n c o t p p', x = .row n c o t p ∧ y = .row n c o t p' ∧ z = .row n c o t [] := by
  unfold joinO at h
  split at h
  · split at h
    · rename_i hh
      cases h
      simp only [Bool.and_eq_true, beq_iff_eq, Nat.beq_eq] at hh
      obtain ⟨⟨⟨h1, h2⟩, h3⟩, h4⟩ := hh
      have h4 := triEq_eq (fun _ _ h => same_sound h) h4
      subst h1 h2 h3 h4
      exact ⟨_, _, _, _, _, _, rfl, rfl, rfl⟩
    · cases h
  · cases h

def triK : Tri O → Tri O → List Nat
  | .node l v r, .node l' v' r' => (match v, v' with
      | some x, some y => match O.same x y with
        | true => []
        | false => match joinO x y with
          | some _ => peersOf x ++ peersOf y
          | none => []
      | _, _ => []) ++ (triK l l' ++ triK r r')
  | _, _ => []

theorem triK_mem : ∀ {a b : Tri O} {k : Nat} {x y z : O}, a.get k = some x → b.get k = some y → O.same x y = false → joinO x y = some z → ∀ j ∈ peersOf x ++ peersOf y, j ∈ triK a b
  | .nil, b, k, x, y, z, h, _, _, _, _, _ => by rw [Tri.get_nil] at h; cases h
  | .node l v r, .nil, k, x, y, z, _, h, _, _, _, _ => by rw [Tri.get_nil] at h; cases h
  | .node l v r, .node l' v' r', k, x, y, z, h1, h2, h3, h4, j, hj => by
    simp only [triK]
    rcases Tri.three k with rfl | ⟨m, rfl⟩ | ⟨m, rfl⟩
    · rw [Tri.get_node0] at h1 h2
      subst h1 h2
      simp only [h3, h4]
      exact List.mem_append_left _ hj
    · rw [Tri.get_nodel] at h1 h2
      exact List.mem_append_right _ (List.mem_append_left _ (triK_mem h1 h2 h3 h4 j hj))
    · rw [Tri.get_noder] at h1 h2
      exact List.mem_append_right _ (List.mem_append_right _ (triK_mem h1 h2 h3 h4 j hj))

def allGe (n0 : Nat) : List Nat → Bool
  | [] => true
  | j :: l => match Nat.ble n0 j with
    | true => allGe n0 l
    | false => false
theorem allGe_spec {n0 : Nat} : ∀ {l : List Nat}, allGe n0 l = true → ∀ j ∈ l, n0 ≤ j
  | [], _, j, hj => by cases hj
  | x :: l, h, j, hj => by
    simp only [allGe] at h
    split at h
    · rename_i hx
      rcases List.mem_cons.1 hj with rfl | hj
      · exact Nat.le_of_ble_eq_true hx
      · exact allGe_spec h j hj
    · cases h

def join2 (n0 : Nat) (gl : Tri (Tri V)) (x y : V × St) : Option (V × St) :=
  match V.same x.1 y.1 with
  | true => match triJ O.waits O.same joinO n0 1 0 x.2.mem y.2.mem, allGe n0 (triK x.2.mem y.2.mem) with
    | some t, true => some (x.1, { next := Nat.max x.2.next y.2.next, mem := killAll t (triK x.2.mem y.2.mem), glob := gl })
    | _, _ => none
  | _ => none

def joinL (n0 : Nat) (gl : Tri (Tri V)) : List (V × St) → Option (V × St)
  | [] => none
  | [x] => some (x.1, { next := x.2.next, mem := x.2.mem, glob := gl })
  | x :: y :: l => match joinL n0 gl (y :: l) with
    | some z => join2 n0 gl x z
    | none => none

def WeakO (zm : Tri O) (o o' : O) : Prop := o = o' ∨ ∃ n c op ti pe, o' = .row n c op ti pe ∧ o = .row n c op ti [] ∧ ∀ j ∈ pe, zm.get j = none

def LeS (n0 : Nat) (gl : Tri (Tri V)) (z x : V × St) : Prop :=
  z.1 = x.1 ∧ x.2.next ≤ z.2.next ∧ z.2.glob = gl ∧ (∀ i o, z.2.mem.get i = some o → ∃ o', x.2.mem.get i = some o' ∧ WeakO z.2.mem o o') ∧ ∀ i, i < n0 → ∀ o, o.waits = true → x.2.mem.get i = some o → z.2.mem.get i = some o

theorem joinL_spec {n0 : Nat} {gl : Tri (Tri V)} : ∀ {L : List (V × St)} {z : V × St}, joinL n0 gl L = some z → ∀ x ∈ L, LeS n0 gl z x
  | [], z, h, _, _ => by cases h
  | [x], z, h, y, hy => by
    simp only [joinL, Option.some.injEq] at h
    subst h
    obtain rfl := List.mem_singleton.1 hy
    exact ⟨rfl, Nat.le_refl _, rfl, fun i o e => ⟨o, e, .inl rfl⟩, fun i _ o _ e => e⟩
  | x :: y :: l, z, h, u, hu => by
    simp only [joinL] at h
    split at h
    · rename_i z1 hz
      unfold join2 at h
      split at h
      · rename_i h1
        split at h
        · rename_i t ht hge
          cases h
          have h1 := same_sound h1
          have sp := triJ_spec (fun _ _ h => O.same_eq h) ht
          have hge := allGe_spec hge
          have hdom : ∀ i, z1.2.mem.get i = none → (killAll t (triK x.2.mem z1.2.mem)).get i = none := by
            intro i hi
            rw [get_killAll]
            split
            · rfl
            · cases ht' : t.get i with
              | none => rfl
              | some o => obtain ⟨_, y', _, e2, _⟩ := (sp i).1 o ht'; rw [hi] at e2; cases e2
          have hk : ∀ j ∈ triK x.2.mem z1.2.mem, (killAll t (triK x.2.mem z1.2.mem)).get j = none := fun j hj => by rw [get_killAll, if_pos hj]
          have hwt : ∀ i, i < n0 → ∀ o, t.get i = some o → (killAll t (triK x.2.mem z1.2.mem)).get i = some o := by
            intro i hi o e
            rw [get_killAll, if_neg (fun hin => by have := hge i hin; omega)]; exact e
          have cases2 : ∀ i o, (killAll t (triK x.2.mem z1.2.mem)).get i = some o → ∃ xo yo, x.2.mem.get i = some xo ∧ z1.2.mem.get i = some yo ∧ ((xo = o ∧ yo = o) ∨ (O.same xo yo = false ∧ joinO xo yo = some o)) := by
            intro i o e
            rw [get_killAll] at e
            split at e
            · cases e
            · exact (sp i).1 o e
          rcases List.mem_cons.1 hu with rfl | hu
          · refine ⟨rfl, Nat.le_max_left _ _, rfl, fun i o e => ?_, fun i hi o ho e => hwt i hi o (((sp i).2 (by omega) o ho).1 e)⟩
            obtain ⟨xo, yo, e1, e2, e3⟩ := cases2 i o e
            refine ⟨xo, e1, ?_⟩
            rcases e3 with ⟨rfl, rfl⟩ | ⟨e4, e5⟩
            · exact .inl rfl
            · obtain ⟨n, c, op, ti, p, p', rfl, rfl, rfl⟩ := joinO_spec e5
              exact .inr ⟨n, c, op, ti, p, rfl, rfl, fun j hj => hk j (triK_mem e1 e2 e4 e5 j (List.mem_append_left _ hj))⟩
          · obtain ⟨k1, k2, k3, k4, k5⟩ := joinL_spec hz u hu
            refine ⟨h1.trans k1, Nat.le_trans k2 (Nat.le_max_right _ _), rfl, fun i o e => ?_, fun i hi o ho e => hwt i hi o (((sp i).2 (by omega) o ho).2 (k5 i hi o ho e))⟩
            obtain ⟨xo, yo, e1, e2, e3⟩ := cases2 i o e
            obtain ⟨uo, f1, f2⟩ := k4 i yo e2
            refine ⟨uo, f1, ?_⟩
            rcases e3 with ⟨rfl, e3⟩ | ⟨e4, e5⟩
            · subst e3
              rcases f2 with f2 | ⟨n, c, op, ti, pe, g1, g2, g3⟩
              · exact .inl f2
              · exact .inr ⟨n, c, op, ti, pe, g1, g2, fun j hj => hdom j (g3 j hj)⟩
            · obtain ⟨n, c, op, ti, p, p', rfl, rfl, rfl⟩ := joinO_spec e5
              rcases f2 with rfl | ⟨n2, c2, op2, ti2, pe, g1, g2, g3⟩
              · exact .inr ⟨n, c, op, ti, p', rfl, rfl, fun j hj => hk j (triK_mem e1 e2 e4 e5 j (List.mem_append_right _ hj))⟩
              · injection g2 with g4 g5 g6 g7 g8
                subst g4 g5 g6 g7
                exact .inr ⟨n, c, op, ti, pe, g1, rfl, fun j hj => hdom j (g3 j hj)⟩
        · cases h
      · cases h
    · cases h

theorem WeakO.objOk {zm : Tri O} {o o' : O} (h : WeakO zm o o') {σ : Sg} {p : Pl} {w : World} (k : ObjOk σ p w o') : ObjOk σ p w o := by
  rcases h with rfl | ⟨n, c, op, ti, pe, rfl, rfl, _⟩
  · exact k
  · simp only [ObjOk] at k ⊢
    obtain ⟨cs, e, fz, h1, h2, h3, h4, h5, h6, _⟩ := k
    exact ⟨cs, e, fz, h1, h2, h3, h4, h5, h6, by simp⟩

theorem WeakO.still {zm : Tri O} {o o' : O} (h : WeakO zm o o') (k : o'.still = true) : o.still = true := by
  rcases h with rfl | ⟨n, c, op, ti, pe, rfl, rfl, _⟩
  · exact k
  · cases ti <;> first | rfl | cases k

theorem WeakO.sh {zm : Tri O} {o o' u u' : O} {j : Nat} {p q : Pl} (h : WeakO zm o o') (h2 : WeakO zm u u') (hj : zm.get j = some u) (k : Sh p o' j q u') : Sh p o j q u := by
  rcases h with rfl | ⟨n, c, op, ti, pe, rfl, rfl, hp⟩
  · rcases h2 with rfl | ⟨n, c, op, ti, pe, rfl, rfl, _⟩
    · exact k
    · cases o <;> simp only [Sh] at k ⊢
      exact k
  · cases u' with
    | row n2 c2 op2 ti2 pe2 =>
      simp only [Sh] at k
      have key : ti = true → False := fun ht => by
        have := hp j (k ht).1
        rw [hj] at this; cases this
      rcases h2 with rfl | ⟨n3, c3, op3, ti3, pe3, e, rfl, _⟩
      · simp only [Sh]; exact fun ht => (key ht).elim
      · simp only [Sh]; exact fun ht => (key ht).elim
    | _ => simp only [Sh] at k

def joinF (P : Program) (cf : CF) (self : SF) : CF := fun f args st =>
  match P.funcs[f]? with
  | none => none
  | some fn => match enterable fn, fn.body with
    | true, some _ => match explore P cf self f 100000 [⟨f, [], none, Fm.enter fn args⟩] st with
      | some L => match joinL st.next st.glob L with
        | some (v, st') => some (.ok v, st')
        | none => none
      | none => none
    | _, _ => none

theorem joinF_sound {P : Program} {W0 : World} {cf : CF} {self : SF} (hs : SOk P W0 self) (hcf : CFok P W0 cf) : CFok P W0 (joinF P cf self) := by
  intro f args st r st' h
  unfold joinF at h
  split at h
  · cases h
  · rename_i fn hf
    split at h
    · rename_i body hen hb
      split at h
      · rename_i L hL
        split at h
        · rename_i v st1 hj
          cases h
          intro σ w args' hR ha
          have hne : (fn.name == "runtime.NumGoroutine") = false := by simpa [enterable] using hen
          refine ⟨fun w => by simp [callFunc, hf, hb]; simpa using hne, fun cs => ?_⟩
          obtain ⟨b0, hb0⟩ : ∃ b0 : Frame, b0 = { fn := f, tmps := #[], todo := [], defers := [], mode := .run, kind := .normal, roundOf := none } := ⟨_, rfl⟩
          have henter : Frame.enter P f args' .normal = Fat b0 { tmps := args' ++ Array.replicate (fn.ntmps - args'.size) undef, defers := [] } [.code body] := by
            simp [Frame.enter, Fat, hf, hb, hb0]
          have hA : At P W0 (lone (Frame.enter P f args' .normal) cs w) cs st.glob (fun σ2 st2 => Post σ st σ2 st2) [⟨f, [], none, Fm.enter fn args⟩] st := by
            refine ⟨σ, w, Frame.enter P f args' .normal, [], hR, ⟨hR.glob, .refl _ _⟩, ?_, .refl _ _⟩
            simp only [FrsR]
            exact ⟨_, [], rfl, ⟨b0, _, [], body, body, fn, _, henter, enter_RF ha (by rw [hb0]), by rw [hb0], by rw [hb0], by rw [hb0], hf, hb, rfl, rfl⟩, rfl⟩
          obtain ⟨r, hr, σ', w', fr, z, hR', hG', hP', hz, hlv, hfn, hst⟩ := explore_sound (fun _ _ _ _ a b => a.trans b) hs hcf 100000 hL hA
          obtain ⟨k1, k2, k3, k4, k5⟩ := joinL_spec hj r hr
          simp only at k1 k2 k3 k4 k5
          subst k1
          refine ⟨σ', w', fr, ?_, ?_, hst, hfn, z, hz, hlv⟩
          · refine ⟨hR'.below, fun i p e => Nat.lt_of_lt_of_le (hR'.dom i p e) k2, fun i p e => ⟨(hR'.blk i p e).1.imp id fun h1 o ho => ?_, (hR'.blk i p e).2⟩, fun i p o e ho => ?_, fun i j p q o o' hij ei ej gi gj hb => ?_, by rw [k3]; exact hG'⟩
            · obtain ⟨o2, g1, g2⟩ := k4 i o ho; exact g2.still (h1 o2 g1)
            · obtain ⟨o2, g1, g2⟩ := k4 i o ho; exact g2.objOk (hR'.obj i p o2 e g1)
            · obtain ⟨o2, g1, g2⟩ := k4 i o gi
              obtain ⟨o3, g3, g4⟩ := k4 j o' gj
              exact g2.sh g4 gj (hR'.sep i j p q o2 o3 hij ei ej g1 g3 hb)
          · refine ⟨hP'.le, Nat.le_trans hP'.nxt k2, fun i hi e => ?_⟩
            obtain ⟨e1, e2⟩ := hP'.pend i hi e
            exact ⟨e1, fun o ho e => k5 i hi o ho (e2 o ho e)⟩
        · cases h
      · cases h
    · cases h

/-- calls that are proved apart; functions of which all orders are gone through -/
def patch (P : Program) (E : List Ext) (N : List FuncId) : SF → CF → CF := fun self cf f args st =>
  match findX E f args with
  | some v => some (.ok v, st)
  | none => match memF f N with
    | true => joinF P cf self f args st
    | false => cf f args st

theorem patch_ok {P : Program} {W0 : World} {s0 : St} {E : List Ext} {N : List FuncId} (hE : ExtOk P s0 E) (hB : ∃ σ, Rel W0 σ s0 W0) {self : SF} (hs : SOk P W0 self) {cf : CF} (hc : CFok P W0 cf) : CFok P W0 (patch P E N self cf) := by
  intro f args st r st' h
  unfold patch at h
  split at h
  · rename_i v hf
    refine patchE_ok hE hB hc f args st r st' ?_
    unfold patchE; rw [hf]; exact h
  · split at h
    · exact joinF_sound hs hc f args st r st' h
    · exact hc f args st r st' h
end Go.Proofs.Ytepkbpdldghjnaa.Ev

namespace Go.Proofs.Ytepkbpdldghjnaa.Ev
open Go Go.RowKit

/-! ### what is forgotten between two parts -/
def AnyQ : Sg → St → Prop := fun _ _ => True
theorem anyKept : Kept AnyQ := fun _ _ _ _ _ _ => trivial

theorem Rel.weaken {W0 : World} {σ : Sg} {st st2 : St} {w : World} (h : Rel W0 σ st w) (hn : st2.next = st.next) (hm : ∀ i o, st2.mem.get i = some o → st.mem.get i = some o) (hg : GlobOk σ W0 st2.glob) : Rel W0 σ st2 w where
  below := h.below
  dom i p e := by rw [hn]; exact h.dom i p e
  blk i p e := ⟨(h.blk i p e).1.imp id fun h1 o ho => h1 o (hm i o ho), (h.blk i p e).2⟩
  obj i p o e ho := h.obj i p o e (hm i o ho)
  sep i j p q o o' hij ei ej gi gj hb := h.sep i j p q o o' hij ei ej (hm i o gi) (hm j o' gj) hb
  glob := hg

def D.same : D → D → Bool
  | .mark i, .mark j => Nat.beq i j
  | .call f a c, .call g b d => Nat.beq f g && sames a b && sames c d
  | _, _ => false
def dsSame : List D → List D → Bool
  | [], [] => true
  | a :: x, b :: y => match D.same a b with
    | true => dsSame x y
    | false => false
  | _, _ => false

theorem sames_sound : ∀ {a b : List V}, sames a b = true → a = b
  | [], [], _ => rfl
  | [], _ :: _, h => by simp [sames] at h
  | _ :: _, [], h => by simp [sames] at h
  | a :: x, b :: y, h => by
    simp only [sames, Bool.and_eq_true] at h
    rw [same_sound h.1, sames_sound h.2]

theorem dsSame_eq : ∀ {a b : List D}, dsSame a b = true → a = b
  | [], [], _ => rfl
  | [], _ :: _, h => by simp [dsSame] at h
  | _ :: _, [], h => by simp [dsSame] at h
  | a :: x, b :: y, h => by
    simp only [dsSame] at h
    split at h
    · rename_i e
      rw [dsSame_eq h]
      unfold D.same at e
      split at e
      · rw [Nat.eq_of_beq_eq_true e]
      · simp only [Bool.and_eq_true, Nat.beq_eq] at e
        rw [e.1.1, sames_sound e.1.2, sames_sound e.2]
      · cases e
    · cases h

def Dir.code : Dir → Nat
  | .lft => 0 | .rgt => 1 | .thn => 2 | .els => 3 | .inn => 4
def dirsEq : List Dir → List Dir → Bool
  | [], [] => true
  | a :: x, b :: y => match Nat.beq a.code b.code with
    | true => dirsEq x y
    | false => false
  | _, _ => false
theorem dirsEq_eq : ∀ {a b : List Dir}, dirsEq a b = true → a = b
  | [], [], _ => rfl
  | [], _ :: _, h => by simp [dirsEq] at h
  | _ :: _, [], h => by simp [dirsEq] at h
  | a :: x, b :: y, h => by
    simp only [dirsEq] at h
    split at h
    · rename_i e
      rw [dirsEq_eq h]
      cases a <;> cases b <;> first | rfl | (simp [Dir.code] at e)
    · cases h

def ixEq : Option Nat → Option Nat → Bool
  | none, none => true
  | some a, some b => Nat.beq a b
  | _, _ => false

def leFr (a b : Fr) : Bool :=
  match Nat.beq a.f b.f, dirsEq a.path b.path, ixEq a.ix b.ix, Nat.beq a.fm.n b.fm.n, dsSame a.fm.df b.fm.df, ixEq a.fm.rd b.fm.rd with
  | true, true, true, true, true, true => triSub V.same a.fm.tm b.fm.tm
  | _, _, _, _, _, _ => false
def leFrs : List Fr → List Fr → Bool
  | [], [] => true
  | a :: x, b :: y => match leFr a b with
    | true => leFrs x y
    | false => false
  | _, _ => false

theorem ixEq_eq {a b : Option Nat} (h : ixEq a b = true) : a = b := by
  unfold ixEq at h
  split at h
  · rfl
  · rw [Nat.eq_of_beq_eq_true h]
  · cases h

theorem leFr_sound {P : Program} {σ : Sg} {a b : Fr} {x : Frame} (h : leFr a b = true) (r : FrR P σ b x) : FrR P σ a x := by
  unfold leFr at h
  split at h
  · rename_i h1 h2 h3 h4 h5 h6
    obtain ⟨fr, ac, k, c, body, fn, todo, q1, q2, q3⟩ := r.ok
    refine ⟨fr, ac, k, c, body, fn, todo, q1, ⟨⟨?_, fun t v hv => ?_⟩, ?_, ?_⟩, ?_⟩
    · rw [Nat.eq_of_beq_eq_true h4]; exact q2.tm.1
    · obtain ⟨v', e1, e2⟩ := triSub_get h hv
      obtain rfl := same_sound e2
      rw [Nat.eq_of_beq_eq_true h4]; exact q2.tm.2 t v e1
    · rw [dsSame_eq h5]; exact q2.df
    · rw [ixEq_eq h6]; exact q2.rd
    · rw [Nat.eq_of_beq_eq_true h1, dirsEq_eq h2, ixEq_eq h3]; exact q3
  · cases h

theorem leFrs_sound {P : Program} {σ : Sg} : ∀ {a b : List Fr} {l : List Frame}, leFrs a b = true → FrsR P σ b l → FrsR P σ a l
  | [], [], l, _, r => r
  | [], _ :: _, l, h, _ => by simp [leFrs] at h
  | _ :: _, [], l, h, _ => by simp [leFrs] at h
  | a :: x, b :: y, l, h, r => by
    simp only [leFrs] at h
    split at h
    · rename_i h1
      simp only [FrsR] at r ⊢
      obtain ⟨z, zs, e, r1, r2⟩ := r
      exact ⟨z, zs, e, leFr_sound h1 r1, leFrs_sound h r2⟩
    · cases h

def leSt (a b : St) : Bool :=
  match Nat.beq a.next b.next with
  | true => triSub O.same a.mem b.mem
  | false => false

theorem At.weaken {P : Program} {W0 : World} {m : Machine} {cs : List Frame} {gl : Tri (Tri V)} {f1 f2 : List Fr} {s1 s2 : St} (h1 : leFrs f2 f1 = true) (h2 : leSt s2 s1 = true) (hg : s2.glob = gl) (h : At P W0 m cs gl AnyQ f1 s1) :
    At P W0 m cs gl AnyQ f2 s2 := by
  obtain ⟨σ, w, x, xs, hR, hG, hF, hS⟩ := h
  unfold leSt at h2
  split at h2
  · rename_i hn
    refine ⟨σ, w, x, xs, hR.weaken (Nat.eq_of_beq_eq_true hn) (fun i o ho => ?_) (by rw [hg]; exact hG.1), ⟨hG.1, trivial⟩, leFrs_sound h1 hF, hS⟩
    obtain ⟨o', e1, e2⟩ := triSub_get h2 ho
    rw [O.same_eq e2]; exact e1
  · cases h2

/-! ### parts -/
def runC (P : Program) (cf : CF) (self : SF) (deep : List FuncId) : Nat → List Fr → St → Option (List Fr × St)
  | 0, frs, st => some (frs, st)
  | m + 1, frs, st => match stepC P cf self deep frs st with
    | some (frs', st') => runC P cf self deep m frs' st'
    | none => none

theorem runC_sound {P : Program} {W0 : World} {m0 : Machine} {cs : List Frame} {gl : Tri (Tri V)} {cf : CF} {self : SF} (hs : SOk P W0 self) (hcf : CFok P W0 cf) {deep : List FuncId} : ∀ (m : Nat) {frs frs' : List Fr} {st st' : St}, runC P cf self deep m frs st = some (frs', st') →
    At P W0 m0 cs gl AnyQ frs st → At P W0 m0 cs gl AnyQ frs' st'
  | 0, frs, frs', st, st', h, hA => by simp only [runC, Option.some.injEq, Prod.mk.injEq] at h; obtain ⟨rfl, rfl⟩ := h; exact hA
  | m + 1, frs, frs', st, st', h, hA => by
    simp only [runC] at h
    split at h
    · rename_i f1 s1 h1; exact runC_sound hs hcf m h (stepC_sound anyKept hs hcf h1 hA)
    · cases h

abbrev Cf := List Fr × St

/-- a part of a run -/
def partOk (P : Program) (E : List Ext) (N : List FuncId) (n : Nat) (deep : List FuncId) (m : Nat) (c c' : Cf) : Bool :=
  match runC P (patch P E N (runK P (patch P E N) n) (callF P (runK P (patch P E N) n))) (runK P (patch P E N) n) deep m c.1 c.2 with
  | some (f, s) => match leFrs c'.1 f with
    | true => leSt c'.2 s
    | false => false
  | none => false

def Goes (P : Program) (s0 : St) (c c' : Cf) : Prop := ∀ W0 m cs, (∃ σ, Rel W0 σ s0 W0) → At P W0 m cs s0.glob AnyQ c.1 c.2 → At P W0 m cs s0.glob AnyQ c'.1 c'.2

theorem Goes.trans {P : Program} {s0 : St} {a b c : Cf} (h : Goes P s0 a b) (k : Goes P s0 b c) : Goes P s0 a c := fun W m cs hB x => k W m cs hB (h W m cs hB x)
theorem Goes.refl (P : Program) (s0 : St) (a : Cf) : Goes P s0 a a := fun _ _ _ _ x => x

theorem goes_of {P : Program} {E : List Ext} {N : List FuncId} {n : Nat} {deep : List FuncId} {m : Nat} {c c' : Cf} {s0 : St} (hE : ExtOk P s0 E) (h : partOk P E N n deep m c c' = true) (hg : c'.2.glob = s0.glob) : Goes P s0 c c' := by
  intro W0 m0 cs hB hA
  have hpt : ∀ self cf, SOk P W0 self → CFok P W0 cf → CFok P W0 (patch P E N self cf) := fun self cf hs => patch_ok hE hB hs
  unfold partOk at h
  rw [runK_eq] at h
  split at h
  · rename_i f s hr
    split at h
    · rename_i h1
      exact At.weaken h1 h hg (runC_sound (run_sound P W0 hpt n) (hpt _ _ (run_sound P W0 hpt n) (XOk.calls (run_sound P W0 hpt n))) m hr hA)
    · cases h
  · cases h

def startC (P : Program) (f : FuncId) (s0 : St) : Cf :=
  match P.funcs[f]? with
  | some fn => ([⟨f, [], none, Fm.enter fn []⟩], s0)
  | none => ([], s0)
def startOk (P : Program) (f : FuncId) : Bool :=
  match P.funcs[f]? with
  | some fn => match enterable fn, fn.body with
    | true, some _ => true
    | _, _ => false
  | none => false

/-- the last part -/
def lastOk (P : Program) (E : List Ext) (N : List FuncId) (n : Nat) (deep : List FuncId) (m : Nat) (c : Cf) (f : FuncId) (b : Bool) : Bool :=
  match runC P (patch P E N (runK P (patch P E N) n) (callF P (runK P (patch P E N) n))) (runK P (patch P E N) n) deep m c.1 c.2 with
  | some ([fr], s) => match Nat.beq fr.f f, fr.ix, P.funcs[fr.f]? with
    | true, none, some fn => match fn.body with
      | some body => match kOf body fr.path with
        | some (.ret, _) => match popV P (runK P (patch P E N) n) fr.f fr.fm s with
          | some (.bool b', _) => b' == b
          | _ => false
        | _ => false
      | none => false
    | _, _, _ => false
  | _ => false

theorem calls_parts {P : Program} {E : List Ext} {N : List FuncId} {n : Nat} {deep : List FuncId} {m : Nat} {c : Cf} {f : FuncId} {b : Bool} {s0 : St} (hE : ExtOk P s0 E) (h0 : startOk P f = true) (hg : Goes P s0 (startC P f s0) c) (hl : lastOk P E N n deep m c f b = true)
    (w : World) (hR : ∃ σ, Rel w σ s0 w) : Calls P f #[] w fun e w' => e = .returned (.bool b) ∧ Below w.heap.size w w' := by
  intro cs
  have hB := hR
  have hpt : ∀ self cf, SOk P w self → CFok P w cf → CFok P w (patch P E N self cf) := fun self cf hs => patch_ok hE hB hs
  obtain ⟨σ, hR⟩ := hR
  unfold startOk at h0
  split at h0
  · rename_i fn hf
    split at h0
    · rename_i body hen hb
      obtain ⟨b0, hb0⟩ : ∃ b0 : Frame, b0 = { fn := f, tmps := #[], todo := [], defers := [], mode := .run, kind := .normal, roundOf := none } := ⟨_, rfl⟩
      have henter : Frame.enter P f #[] .normal = Fat b0 { tmps := (#[] : Array Value) ++ Array.replicate (fn.ntmps - (#[] : Array Value).size) undef, defers := [] } [.code body] := by
        simp [Frame.enter, Fat, hf, hb, hb0]
      have hA : At P w (lone (Frame.enter P f #[] .normal) cs w) cs s0.glob AnyQ (startC P f s0).1 (startC P f s0).2 := by
        refine ⟨σ, w, Frame.enter P f #[] .normal, [], ?_, ⟨hR.glob, trivial⟩, ?_, .refl _ _⟩
        · simp only [startC, hf]; exact hR
        · simp only [startC, hf, FrsR]
          exact ⟨_, [], rfl, ⟨b0, _, [], body, body, fn, _, henter, enter_RF (by simp [RVs]) (by rw [hb0]), by rw [hb0], by rw [hb0], by rw [hb0], hf, hb, rfl, rfl⟩, rfl⟩
      have hA := hg w _ cs hB hA
      unfold lastOk at hl
      rw [runK_eq] at hl
      split at hl
      · rename_i fr s hr
        have hA := runC_sound (run_sound P w hpt n) (hpt _ _ (run_sound P w hpt n) (XOk.calls (run_sound P w hpt n))) m hr hA
        obtain ⟨σ1, w1, x, xs, hR1, hG1, hF1, hS1⟩ := hA
        simp only [FrsR] at hF1
        obtain ⟨x', xs', e, hx, rfl⟩ := hF1
        injection e with e1 e2
        subst e1 e2
        obtain ⟨b1, a1, k1, c1, body1, fn1, todo1, rfl, hRF, q1, q2, q3, hf1, hbd1, hk1, ht1⟩ := hx.ok
        split at hl
        · rename_i fn2 hff hix hf2
          rw [hf2] at hf1; obtain rfl := Option.some.inj hf1
          rw [hbd1] at hl
          simp only at hl
          rw [hk1] at hl
          rw [hix] at ht1
          simp only at ht1
          subst ht1
          split at hl
          · rename_i k2 e
            simp only [Option.some.injEq, Prod.mk.injEq] at e
            obtain ⟨rfl, rfl⟩ := e
            split at hl
            · rename_i b' s2 hp
              obtain rfl : b' = b := by simpa using hl
              obtain ⟨σ2, w2, fr2, z, hR2, le2, hz, hlv, hfn, hst⟩ := popV_sound (run_sound P w hpt n) hp hR1 hRF ⟨q1, q2, q3⟩ k1 cs
              simp only [RV] at hz
              subst hz
              exact ⟨.returned (.bool b'), w2, fr2, ⟨rfl, hR2.below⟩, hS1.trans hst, by rw [hfn]; exact Nat.eq_of_beq_eq_true hff, hlv⟩
            · cases hl
          · cases hl
        · cases hl
      · cases hl
    · cases h0
  · cases h0

def startA (P : Program) (f : FuncId) (args : List V) (s0 : St) : Cf :=
  match P.funcs[f]? with
  | some fn => ([⟨f, [], none, Fm.enter fn args⟩], s0)
  | none => ([], s0)

/-- the last part of a call that has a closed answer -/
def lastV (P : Program) (E : List Ext) (N : List FuncId) (n : Nat) (deep : List FuncId) (m : Nat) (c : Cf) (f : FuncId) (v : V) : Bool :=
  match runC P (patch P E N (runK P (patch P E N) n) (callF P (runK P (patch P E N) n))) (runK P (patch P E N) n) deep m c.1 c.2 with
  | some ([fr], s) => match Nat.beq fr.f f, fr.ix, P.funcs[fr.f]? with
    | true, none, some fn => match fn.body with
      | some body => match kOf body fr.path with
        | some (.ret, _) => match popV P (runK P (patch P E N) n) fr.f fr.fm s with
          | some (v', _) => V.same v' v
          | _ => false
        | _ => false
      | none => false
    | _, _, _ => false
  | _ => false

theorem ext_parts {P : Program} {E : List Ext} {N : List FuncId} {n : Nat} {deep : List FuncId} {m : Nat} {c : Cf} {f : FuncId} {args : List V} {v : V} {s0 : St} (hE : ExtOk P s0 E) (hca : closeds args = true) (hcv : v.closed = true) (h0 : startOk P f = true)
    (hg : Goes P s0 (startA P f args s0) c) (hl : lastV P E N n deep m c f v = true) : Ext.ok P s0 ⟨f, args, v⟩ := by
  refine ⟨hca, hcv, fun w xs σ1 hR ha1 => ?_⟩
  have hB := hR
  have hpt : ∀ self cf, SOk P w self → CFok P w cf → CFok P w (patch P E N self cf) := fun self cf hs => patch_ok hE hB hs
  obtain ⟨σ, hR⟩ := hR
  have ha : RVs σ args xs.toList := RVs.closed _ _ hca ha1
  unfold startOk at h0
  split at h0
  · rename_i fn hf
    split at h0
    · rename_i body hen hb
      have hne : (fn.name == "runtime.NumGoroutine") = false := by simpa [enterable] using hen
      refine ⟨fun w => by simp [callFunc, hf, hb]; simpa using hne, fun cs => ?_⟩
      obtain ⟨b0, hb0⟩ : ∃ b0 : Frame, b0 = { fn := f, tmps := #[], todo := [], defers := [], mode := .run, kind := .normal, roundOf := none } := ⟨_, rfl⟩
      have henter : Frame.enter P f xs .normal = Fat b0 { tmps := xs ++ Array.replicate (fn.ntmps - xs.size) undef, defers := [] } [.code body] := by
        simp [Frame.enter, Fat, hf, hb, hb0]
      have hA : At P w (lone (Frame.enter P f xs .normal) cs w) cs s0.glob AnyQ (startA P f args s0).1 (startA P f args s0).2 := by
        refine ⟨σ, w, Frame.enter P f xs .normal, [], ?_, ⟨hR.glob, trivial⟩, ?_, .refl _ _⟩
        · simp only [startA, hf]; exact hR
        · simp only [startA, hf, FrsR]
          exact ⟨_, [], rfl, ⟨b0, _, [], body, body, fn, _, henter, enter_RF ha (by rw [hb0]), by rw [hb0], by rw [hb0], by rw [hb0], hf, hb, rfl, rfl⟩, rfl⟩
      have hA := hg w _ cs hB hA
      unfold lastV at hl
      rw [runK_eq] at hl
      split at hl
      · rename_i fr s hr
        have hA := runC_sound (run_sound P w hpt n) (hpt _ _ (run_sound P w hpt n) (XOk.calls (run_sound P w hpt n))) m hr hA
        obtain ⟨σ1, w1, x, xs, hR1, hG1, hF1, hS1⟩ := hA
        simp only [FrsR] at hF1
        obtain ⟨x', xs', e, hx, rfl⟩ := hF1
        injection e with e1 e2
        subst e1 e2
        obtain ⟨b1, a1, k1, c1, body1, fn1, todo1, rfl, hRF, q1, q2, q3, hf1, hbd1, hk1, ht1⟩ := hx.ok
        split at hl
        · rename_i fn2 hff hix hf2
          rw [hf2] at hf1; obtain rfl := Option.some.inj hf1
          rw [hbd1] at hl
          simp only at hl
          rw [hk1] at hl
          rw [hix] at ht1
          simp only at ht1
          subst ht1
          split at hl
          · rename_i k2 e
            simp only [Option.some.injEq, Prod.mk.injEq] at e
            obtain ⟨rfl, rfl⟩ := e
            split at hl
            · rename_i v' s2 hp
              obtain rfl := same_sound hl
              obtain ⟨σ2, w2, fr2, z, hR2, le2, hz, hlv, hfn, hst⟩ := popV_sound (run_sound P w hpt n) hp hR1 hRF ⟨q1, q2, q3⟩ k1 cs
              exact ⟨z, w2, fr2, hR2.below, RV.closed _ _ hcv hz, hS1.trans hst, by rw [hfn]; exact Nat.eq_of_beq_eq_true hff, hlv⟩
            · cases hl
          · cases hl
        · cases hl
      · cases hl
    · cases h0
  · cases h0

/-- a call that is proved apart, as a walk asks for it -/
theorem calls_ext {P : Program} {s0 : St} {e : Ext} (h : e.ok P s0) (w : World) (hB : ∃ σ, Rel w σ s0 w) (xs : Array Value) (ha : RVs (fun _ => none) e.args xs.toList) :
    Calls P e.f xs w fun r w' => ∃ z, r = .returned z ∧ RV (fun _ => none) e.v z ∧ Below w.heap.size w w' := by
  intro cs
  obtain ⟨_, hv, k⟩ := h
  obtain ⟨_, k2⟩ := k w xs (fun _ => none) hB ha
  obtain ⟨z, w', fr, hb, hz, hst, hfn, hl⟩ := k2 cs
  exact ⟨.returned z, w', fr, ⟨z, rfl, hz, hb⟩, hst, hfn, hl⟩
end Go.Proofs.Ytepkbpdldghjnaa.Ev
