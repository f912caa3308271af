/-
  For every value, and every number of a Kind, or an operator: whether it may be, is of that Kind, and is yes, its text, and what the operator comes to, are the document's: the law ValueOne returns true, in every world that holds the listed tables. Condition: the tables of the row's list, which the card ties to the program's text.
-/
import Derived.Test.YthnldpbkjegfaaaDoorCards
import Derived.Test.YthnldpbkjegfaaaDoorTie
import Derived.WalkKit
import Derived.ProofKit
import Derived.OpenShut
import Derived.Deep.DeepHandedRow
import Derived.Lib.LaidTab
import Derived.LaidMore
import Derived.Deep.DeepWitnessRowRef
import Derived.Test.YthnldpbkjegfaaaDoorBase
import Derived.Test.YthnldpbkjegfaaaDoorFrame
import Derived.Test.YthnldpbkjegfaaaDoorTb
import Derived.Test.YthnldpbkjegfaaaDoorLo
namespace Go.Proofs.YthnldpbkjegfaaaDoor.valueOne
open Go.ChangeShapes Go.WideShapes Go.ChangeAt Go.RowKit
set_option linter.unusedVariables false
open Go.Proofs.YthnldpbkjegfaaaDoor Go.Proofs.YthnldpbkjegfaaaDoor.Base
theorem u8_wf {n : Int} (h : (Lit.int .u8 n).wf = true) : Sv.U8 n := by
  have h : (decide (IntKind.u8.min ≤ n) && decide (n ≤ IntKind.u8.max)) = true := h
  simp only [Bool.and_eq_true, decide_eq_true_eq] at h; exact h
theorem i64_wf {n : Int} (h : (Lit.int .i64 n).wf = true) : Sv.I64 n := by
  have h : (decide (IntKind.i64.min ≤ n) && decide (n ≤ IntKind.i64.max)) = true := h
  simp only [Bool.and_eq_true, decide_eq_true_eq] at h; exact h
section
variable {H : Type} {enc : TypeId × Value → H} {W : World} {spare : Nat → Bool} {held : Bool}
theorem rdVl : Sv.Reads enc Tryd.prog W spare held 23 Vl.v VlOk :=
  Sv.reads_struct Tryd.underlying23 (Sv.readsF_cons (n := 1) (Sv.reads_int Tryd.underlying5) rfl (by kernel_rfl) (Sv.readsF_cons (n := 1) (Sv.reads_int Tryd.underlying2) rfl (by kernel_rfl)
    (Sv.readsF_cons (n := 1) (Sv.reads_string Tryd.underlying9) rfl (by kernel_rfl) Sv.readsF_nil))) (by kernel_rfl)
    (fun b => ⟨b.1, b.2.1, b.2.2.1⟩) (fun _ => rfl) (fun _ => rfl) (fun b h => ⟨u8_wf h.1, i64_wf h.2.1, h.2.2.1⟩)
end
theorem walk (v0 v1 : Value) (x0 : Vl) (o0 : VlOk x0) (x1 : Int) (o1 : (Lit.int .u8 x1).wf = true) (w : World) (hL : laidMet Tryd.prog Rows.valueOneRow.laid w) (r0 : Sv.RV (Sv.Sg.ofFz (Sv.fzW w)) (x0.v) v0) (r1 : Sv.RV (Sv.Sg.ofFz (Sv.fzW w)) (.si .u8 x1) v1) :
    Calls Tryd.prog 3 #[v0, v1] w fun e w' => e = .returned (.bool true) ∧ Below w.heap.size w w' :=
  Sv.Ct.calls (lawo_ct x0 x1 o0 (u8_wf o1)) rfl (tabS_ok w hL) (Sv.fzW_ok w) (by simp only [Sv.RVs]; exact ⟨_, _, rfl, r0, _, _, rfl, r1, rfl⟩)
/-- what the walk gives, in every world that holds the tables -/
theorem contract (H : Type) (enc : TypeId × Value → H) (W : World) (base : Nat) (args : Array Value) (ds gs : List (DataW H)) (before : List MemPlace)
    (hval0 : ∀ (j : Nat) t v, Tryd.f3.params[j]? = some t → args[j]? = some v → Value.okWide Tryd.prog W .any base t v)
    (hW : DataW.Whole enc Tryd.prog Tryd.f3.params.toList Rows.valueOneSpec.vars false W args.toList ds gs before)
    (hsz : (DataW.weightsEach Tryd.prog (Tryd.f3.params.toList ++ (OpenSpec.ofChange Rows.valueOneSpec).bare.plain.varTypes Tryd.prog) (ds ++ gs)).all (· ≤ reachBytes) = true) (hL : laidMetH Tryd.prog Rows.valueOneRow.laid W) :
    Calls Tryd.prog 3 args W fun e W' => ∃ v, e = .returned v ∧ Rows.valueOneSpec.post enc Tryd.prog Tryd.f3 false true false false W args v W' := by
  have hW' := hW
  obtain ⟨p, q, hA0, hV, rfl, hfz, hnd⟩ := hW
  have hA : DataW.TrodAll enc Tryd.prog W 0 (fun _ => true) true Tryd.f3.params.toList args.toList ds p := hA0
  obtain ⟨rfl, rfl⟩ := trodVars_none hV
  have hplain : (OpenSpec.ofChange Rows.valueOneSpec).bare.plain.varTypes Tryd.prog = [] := rfl
  rw [hplain, List.append_nil, List.append_nil] at hsz
  have hval : ∀ (j : Nat) t v, Tryd.f3.params.toList[j]? = some t → args[j]? = some v → Value.okWide Tryd.prog W .any base t v := fun j t v h1 h2 => hval0 j t v (by simpa using h1) h2
  have hA1 := hA
  have hpar : Tryd.f3.params.toList = [23, 5] := rfl
  rw [hpar] at hval hA hsz
  obtain ⟨v0, vs0, d0, ds0, p0, q0, hargs, rfl, rfl, h0, r0⟩ := trodAll_cons hA
  obtain ⟨v1, vs1, d1, ds1, p1, q1, rfl, rfl, rfl, h1, r1⟩ := trodAll_cons r0
  obtain ⟨rfl, rfl, rfl⟩ := trodAll_nil r1
  obtain rfl : args = #[v0, v1] := by cases args; simp_all
  obtain ⟨x0, rr0, o0⟩ := Sv.Reads.argS (P := Tryd.checked.prog) (rdVl) Tryd.underlying23 (fun a => ⟨_, rfl⟩) (hval 0 23 v0 rfl rfl) h0 (fun k hk => of_decide_eq_true (List.all_eq_true.1 hsz _ (DataW.weights_mem_each (j := 0) rfl rfl k hk)))
  obtain ⟨x1, rr1, o1⟩ := Sv.Reads.arg1 (P := Tryd.checked.prog) (Sv.reads_int Tryd.underlying5) Tryd.underlying5 rfl (fun a => ⟨_, rfl, rfl⟩) (hval 1 5 v1 rfl rfl) h1 (fun k hk => of_decide_eq_true (List.all_eq_true.1 hsz _ (DataW.weights_mem_each (j := 1) rfl rfl k hk)))
  refine (walk v0 v1 x0 o0 x1 o1 W hL rr0 rr1).mono fun e W' ⟨he, hg⟩ => ?_
  subst he
  exact ⟨_, rfl, _, [], _, [], _, [], hW', trodAll_mk1 (shut_bool Tryd.underlying4 _), belowTrodAll (P := Tryd.prog) (by kernel_rfl) hg (by kernel_rfl) hA1, rfl, hg.frame _, fun h => by cases h⟩
set_option maxRecDepth 100000
theorem met1 (os : Os) : (DataW.laidRun Tryd.prog ((laidWorld os).forCall (fun _ _ => 0) ⟨#[], #[.agg #[.int .u8 0, .int .i64 0, .string ByteArray.empty], .int .u8 0], []⟩).memory 8 (Rows.valueOneRow.laid.map (·.1))).map (·.1) = some Rows.valueOneRow.laid := by kernel_rfl
theorem met2 (os : Os) : (DataW.laidRun Tryd.prog ((laidWorld os).forCall (fun _ _ => 0) ⟨#[], #[.agg #[.int .u8 0, .int .i64 0, .string ByteArray.empty], .int .u8 0], []⟩).memory 8 (Rows.valueOneRow.laid.map (·.1))).map (fun x => Go.Proofs.YthnldpbkjegfaaaDoor.Sv.nodupP x.2 .nil .nil && laidRowsB Tryd.prog ((laidWorld os).forCall (fun _ _ => 0) ⟨#[], #[.agg #[.int .u8 0, .int .i64 0, .string ByteArray.empty], .int .u8 0], []⟩).memory x.2) = some true := by kernel_rfl
theorem laid_met (os : Os) : laidMet Tryd.prog Rows.valueOneRow.laid ((laidWorld os).forCall (fun _ _ => 0) ⟨#[], #[.agg #[.int .u8 0, .int .i64 0, .string ByteArray.empty], .int .u8 0], []⟩).memory :=
  Go.Proofs.YthnldpbkjegfaaaDoor.Sv.laidMet_of_run2 8 (met1 os) (met2 os)
theorem reads_some (os : Os) {H : Type} (enc : TypeId × Value → H) : (DataW.whole enc Tryd.prog ((laidWorld os).forCall (fun _ _ => 0) ⟨#[], #[.agg #[.int .u8 0, .int .i64 0, .string ByteArray.empty], .int .u8 0], []⟩).memory Tryd.f3.params.toList Rows.valueOneSpec.vars false (#[.agg #[.int .u8 0, .int .i64 0, .string ByteArray.empty], .int .u8 0] : Array Value).toList 8).isSome = true := by kernel_rfl
theorem fit_args (os : Os) : Input.okWideB Tryd.prog ((laidWorld os).forCall (fun _ _ => 0) ⟨#[], #[.agg #[.int .u8 0, .int .i64 0, .string ByteArray.empty], .int .u8 0], []⟩) 3 ⟨#[], #[.agg #[.int .u8 0, .int .i64 0, .string ByteArray.empty], .int .u8 0], []⟩ = true := by kernel_rfl
theorem fit_size (os : Os) {H : Type} (enc : TypeId × Value → H) : (OpenSpec.ofChange Rows.valueOneSpec).bare.sizedB enc Tryd.prog Tryd.f3 false ((laidWorld os).forCall (fun _ _ => 0) ⟨#[], #[.agg #[.int .u8 0, .int .i64 0, .string ByteArray.empty], .int .u8 0], []⟩).memory #[.agg #[.int .u8 0, .int .i64 0, .string ByteArray.empty], .int .u8 0] 8 = true := by kernel_rfl
theorem fit_row (os : Os) {H : Type} (enc : TypeId × Value → H) :
    (OpenSpec.ofChange Rows.valueOneSpec).preRow enc Tryd.prog Tryd.f3 Rows.valueOneRow.domain false Rows.valueOneRow.laid ((laidWorld os).forCall (fun _ _ => 0) ⟨#[], #[.agg #[.int .u8 0, .int .i64 0, .string ByteArray.empty], .int .u8 0], []⟩).memory #[.agg #[.int .u8 0, .int .i64 0, .string ByteArray.empty], .int .u8 0] := by
  obtain ⟨y, hx⟩ := Option.isSome_iff_exists.1 (reads_some os enc)
  exact OpenSpec.preRow_of_cond 8 hx rfl (fun k hk => by cases hk) (fit_size os enc) (laid_met os)

theorem lifted (os : Os) (started : os.Started) (H : Type) (enc : TypeId × Value → H) (F : Stop.Interp) :
    ReturnsInHanded {} Tryd.checked os 3 .any ((OpenSpec.ofChange Rows.valueOneSpec).preRow enc Tryd.prog Tryd.f3 Rows.valueOneRow.domain false Rows.valueOneRow.laid) (((OpenSpec.ofChange Rows.valueOneSpec).at F).post enc Tryd.prog Tryd.f3 false true false false) := by
  refine returnsInHanded_of_row (C := Tryd.checked) (s := OpenSpec.ofChange Rows.valueOneSpec) own started (by kernel_rfl) Tryd.func3
    (witness_row_atRef (enc := enc) (C := Tryd.checked) false (laidWorld os) #[.agg #[.int .u8 0, .int .i64 0, .string ByteArray.empty], .int .u8 0] (fit_os os) (fit_vars os #[.agg #[.int .u8 0, .int .i64 0, .string ByteArray.empty], .int .u8 0]) (fit_rest os #[.agg #[.int .u8 0, .int .i64 0, .string ByteArray.empty], .int .u8 0]) (fit_args os) (fit_row os enc)) ?_
  intro W base args ds gs before hval hW _ _ hsz hL _ _
  exact contract H enc W base args ds gs before hval hW hsz hL

theorem k1 : laidOutB Tryd.prog = true := by kernel_rfl
theorem k2 : mapsRowed Tryd.prog = true := by kernel_rfl
theorem k3 : (Rows.valueOneRow.inPlace == Tryd.prog.inPlace 3) = true := by kernel_rfl
theorem k4 : (Rows.valueOneRow.unfollowed == Tryd.prog.unfollowed 3) = true := by kernel_rfl
theorem k5 : (Rows.valueOneRow.recurses == Tryd.prog.recurses 3) = true := by kernel_rfl
theorem k6 : (Rows.valueOneRow.named == Tryd.prog.varsNamed 3) = true := by kernel_rfl
theorem k7 : (Rows.valueOneRow.plainKeys == Tryd.prog.plainKeys) = true := by kernel_rfl
theorem closed : joinedFacts Tryd.prog 3 Tryd.f3 (OpenSpec.ofChange Rows.valueOneSpec).bare Rows.valueOneRow = true := by
  unfold joinedFacts
  rw [k1, k2, k3, k4, k5, k6, k7]
  kernel_rfl
theorem inst : Tryd.f3.isInstance Tryd.prog Rows.valueOneRow.origin Rows.valueOneRow.targs := of_decide_eq_true (by kernel_rfl)
theorem wrap : Tryd.f3.isWrapper Tryd.prog Rows.valueOneRow.wrapper Rows.valueOneRow.mainSum := by
  unfold Func.isWrapper; first | (rw [if_pos (by decide +kernel)]; kernel_rfl) | (rw [if_neg (by decide +kernel)]; exact ⟨rfl, rfl⟩)
theorem said : Rows.ValueOneSaid :=
  OpenClaim.holds_of_cond 3 Tryd.f3 rfl rfl rfl rfl rfl rfl rfl ⟨rfl, rfl, rfl, rfl, rfl⟩ rfl rfl rfl rfl rfl (by kernel_rfl) Tryd.func3 closed inst wrap
    (fun os started H enc _ F => by rw [OpenClaim.pre_eq_preRow]; exact lifted os started H enc F)

theorem stands : Tryd.f3.params.toList.all (fun t => !Tryd.pinned.checked.prog.wantsStandIn t) = true := by kernel_rfl
/-- no parameter wants a stand-in; the program's own looks are off -/
theorem plain (f : FuncId) (fn : Func) (hf : Tryd.pinned.checked.prog.funcNamed "callboard/callboardlaw09.ValueOne" = some f) (hfn : Tryd.pinned.checked.prog.funcs[f]? = some fn) :
    false = Tryd.pinned.checked.prog.looks [] ∧ ∀ (j : Nat) t, fn.params[j]? = some t → Tryd.pinned.checked.prog.wantsStandIn t = false := by
  obtain rfl : f = 3 := Option.some.inj ((show Tryd.prog.funcNamed "callboard/callboardlaw09.ValueOne" = some 3 by kernel_rfl).symm.trans hf) |>.symm
  obtain rfl : fn = Tryd.f3 := (Option.some.inj (Tryd.func3.symm.trans hfn)).symm
  refine ⟨by kernel_rfl, fun j t ht => ?_⟩
  have hm : t ∈ Tryd.f3.params.toList := by
    rw [← Array.getElem?_toList] at ht; exact List.mem_of_getElem? ht
  have := List.all_eq_true.1 stands t hm
  simpa using this

/-- THE CARD -/
theorem proved : Rows.ValueOneCardSaid :=
  Claim7.holds_tied_plain_at .later [] _ _ _ _ said (fun _ h => by cases h) (by kernel_rfl) (fun _ h => by cases h) valueOne_row_tie rfl ⟨rfl, rfl⟩ (by kernel_rfl) rfl plain (by kernel_rfl)
#print axioms proved
end Go.Proofs.YthnldpbkjegfaaaDoor.valueOne
