/-
  SaveNames holds, on its card: in every world that holds the listed package-level tables as the program's own initialisers lay them the closed statement returns true, and nothing that was there is written. Condition: the tables of the row's list, which the card ties to the program's text. (The call is reckoned by the kernel, by an evaluator that is proved sound for the model.)
-/
import Derived.Test.YtdgpckkojkpmjaaGreatDoorCards
import Derived.Test.YtdgpckkojkpmjaaGreatDoorTie
import Derived.WalkKit
import Derived.ProofKit
import Derived.OpenShut
import Derived.Deep.DeepHandedRow
import Derived.Lib.LaidTab
import Derived.LaidMore
import Derived.Deep.DeepWitnessRowRef
import Derived.Test.YtdgpckkojkpmjaaGreatDoorBase
import Derived.Test.YtdgpckkojkpmjaaGreatDoorSaveP2
namespace Go.Proofs.YtdgpckkojkpmjaaGreatDoor.saveNames
open Go.ChangeShapes Go.WideShapes Go.ChangeAt Go.RowKit
set_option linter.unusedVariables false

open Go.Proofs.YtdgpckkojkpmjaaGreatDoor.Base

set_option maxRecDepth 100000 in
theorem walk (W : World) (hL : laidMet Tryz.prog Rows.saveNamesRow.laid W) : Calls Tryz.prog 3 #[] W fun e w' => e = .returned (.bool true) ∧ Below W.heap.size W w' :=
  walked W hL

theorem closedPost {H : Type} {enc : TypeId × Value → H} {P : Program} {F : Func} {s : ChangeSpec} {tb : TypeId} {W W' : World} (hp : F.params = #[]) (hres : F.resultTypes = #[tb]) (hub : P.underlying tb = some .bool)
    (h1 : (s.fn H []).results = [.lit (.bool true)]) (h2 : (s.fn H []).args = []) (h3 : (s.fn H []).vars = []) (hvars : s.vars = [])
    (hW : DataW.Whole enc P F.params.toList s.vars false W (#[] : Array Value).toList [] [] []) (hb : Below W.heap.size W W') : s.post enc P F false true false false W #[] (.bool true) W' := by
  refine ⟨[], [], [], [], [], [], hW, ?_, ?_, ?_, hb.frame _, fun h => by cases h⟩
  · rw [show (s.fn H ([] ++ [])).results = [.lit (.bool true)] from h1, hres]; exact trodAll_mk1 (shut_bool hub _)
  · rw [show (s.fn H ([] ++ [])).args = [] from h2, hp]; exact trodAll_mk0
  · rw [show (s.fn H ([] ++ [])).vars = [] from h3, hvars]; exact rfl

/-- what the walk gives, in every world that holds the tables -/
theorem contract (H : Type) (enc : TypeId × Value → H) (W : World) (base : Nat) (args : Array Value) (ds gs : List (DataW H)) (before : List MemPlace)
    (hW : DataW.Whole enc Tryz.prog Tryz.f3.params.toList Rows.saveNamesSpec.vars false W args.toList ds gs before) (hL : laidMetH Tryz.prog Rows.saveNamesRow.laid W) :
    Calls Tryz.prog 3 args W fun e W' => ∃ v, e = .returned v ∧ Rows.saveNamesSpec.post enc Tryz.prog Tryz.f3 false true false false W args v W' := by
  have hW' := hW
  obtain ⟨p, q, hA0, hV, rfl, hfz, hnd⟩ := hW
  have hA : DataW.TrodAll enc Tryz.prog W 0 (fun _ => true) true Tryz.f3.params.toList args.toList ds p := hA0
  have hpar : Tryz.f3.params.toList = [] := rfl
  rw [hpar] at hA
  obtain ⟨hargs, rfl, rfl⟩ := trodAll_nil hA
  obtain rfl : args = #[] := by cases args; simp_all
  obtain ⟨rfl, rfl⟩ := trodVars_none hV
  clear hA0
  simp only [List.append_nil] at hW'
  refine (walk W hL).mono fun e W' ⟨he, hb⟩ => ?_
  subst he
  exact ⟨_, rfl, closedPost (tb := 4) rfl rfl Tryz.underlying4 rfl rfl rfl rfl hW' hb⟩

theorem met1 (os : Os) : (DataW.laidRun Tryz.prog ((laidWorld os).forCall (fun _ _ => 0) ⟨#[], #[], []⟩).memory 8 (Rows.saveNamesRow.laid.map (·.1))).map (·.1) = some Rows.saveNamesRow.laid := by kernel_rfl
theorem met2 (os : Os) : (DataW.laidRun Tryz.prog ((laidWorld os).forCall (fun _ _ => 0) ⟨#[], #[], []⟩).memory 8 (Rows.saveNamesRow.laid.map (·.1))).map (fun x => Go.Proofs.YtdgpckkojkpmjaaGreatDoor.Ev.nodupP x.2 .nil .nil && laidRowsB Tryz.prog ((laidWorld os).forCall (fun _ _ => 0) ⟨#[], #[], []⟩).memory x.2) = some true := by kernel_rfl
theorem laid_met (os : Os) : laidMet Tryz.prog Rows.saveNamesRow.laid ((laidWorld os).forCall (fun _ _ => 0) ⟨#[], #[], []⟩).memory :=
  Go.Proofs.YtdgpckkojkpmjaaGreatDoor.Ev.laidMet_of_run2 8 (met1 os) (met2 os)
theorem reads (os : Os) {H : Type} (enc : TypeId × Value → H) : ∃ places, DataW.whole enc Tryz.prog ((laidWorld os).forCall (fun _ _ => 0) ⟨#[], #[], []⟩).memory Tryz.f3.params.toList Rows.saveNamesSpec.vars false (#[] : Array Value).toList 8 = some ([], [], places) :=
  ⟨[], by kernel_rfl⟩

set_option maxRecDepth 100000
theorem fit_args (os : Os) : Input.okWideB Tryz.prog ((laidWorld os).forCall (fun _ _ => 0) ⟨#[], #[], []⟩) 3 ⟨#[], #[], []⟩ = true := by kernel_rfl
theorem fit_size (os : Os) {H : Type} (enc : TypeId × Value → H) : (OpenSpec.ofChange Rows.saveNamesSpec).bare.sizedB enc Tryz.prog Tryz.f3 false ((laidWorld os).forCall (fun _ _ => 0) ⟨#[], #[], []⟩).memory #[] 8 = true := by kernel_rfl
theorem fit_row (os : Os) {H : Type} (enc : TypeId × Value → H) :
    (OpenSpec.ofChange Rows.saveNamesSpec).preRow enc Tryz.prog Tryz.f3 Rows.saveNamesRow.domain false Rows.saveNamesRow.laid ((laidWorld os).forCall (fun _ _ => 0) ⟨#[], #[], []⟩).memory #[] := by
  obtain ⟨places, hx⟩ := reads os enc
  exact OpenSpec.preRow_of_cond 8 hx (by kernel_rfl) (fun k hk => by cases hk) (fit_size os enc) (laid_met os)

theorem lifted (os : Os) (started : os.Started) (H : Type) (enc : TypeId × Value → H) (F : Stop.Interp) :
    ReturnsInHanded {} Tryz.checked os 3 .any ((OpenSpec.ofChange Rows.saveNamesSpec).preRow enc Tryz.prog Tryz.f3 Rows.saveNamesRow.domain false Rows.saveNamesRow.laid) (((OpenSpec.ofChange Rows.saveNamesSpec).at F).post enc Tryz.prog Tryz.f3 false true false false) := by
  refine returnsInHanded_of_row (C := Tryz.checked) (s := OpenSpec.ofChange Rows.saveNamesSpec) own started (by kernel_rfl) Tryz.func3
    (witness_row_atRef (enc := enc) (C := Tryz.checked) false (laidWorld os) #[] (fit_os os) (fit_vars os) (fit_rest os) (fit_args os) (fit_row os enc)) ?_
  intro W base args ds gs before hval hW _ _ _ hL _ _
  exact contract H enc W base args ds gs before hW hL

theorem k1 : laidOutB Tryz.prog = true := by kernel_rfl
theorem k2 : mapsRowed Tryz.prog = true := by kernel_rfl
theorem k3 : (Rows.saveNamesRow.inPlace == Tryz.prog.inPlace 3) = true := by kernel_rfl
theorem k4 : (Rows.saveNamesRow.unfollowed == Tryz.prog.unfollowed 3) = true := by kernel_rfl
theorem k5 : (Rows.saveNamesRow.recurses == Tryz.prog.recurses 3) = true := by kernel_rfl
theorem k6 : (Rows.saveNamesRow.named == Tryz.prog.varsNamed 3) = true := by kernel_rfl
theorem k7 : (Rows.saveNamesRow.plainKeys == Tryz.prog.plainKeys) = true := by kernel_rfl
theorem closed : joinedFacts Tryz.prog 3 Tryz.f3 (OpenSpec.ofChange Rows.saveNamesSpec).bare Rows.saveNamesRow = true := by
  unfold joinedFacts
  rw [k1, k2, k3, k4, k5, k6, k7]
  kernel_rfl
theorem inst : Tryz.f3.isInstance Tryz.prog Rows.saveNamesRow.origin Rows.saveNamesRow.targs := of_decide_eq_true (by kernel_rfl)
theorem wrap : Tryz.f3.isWrapper Tryz.prog Rows.saveNamesRow.wrapper Rows.saveNamesRow.mainSum := by
  unfold Func.isWrapper; first | (rw [if_pos (by decide +kernel)]; kernel_rfl) | (rw [if_neg (by decide +kernel)]; exact ⟨rfl, rfl⟩)
theorem said : Rows.SaveNamesSaid :=
  OpenClaim.holds_of_cond 3 Tryz.f3 rfl rfl rfl rfl rfl rfl rfl ⟨rfl, rfl, rfl, rfl, rfl⟩ rfl rfl rfl rfl rfl (by kernel_rfl) Tryz.func3 closed inst wrap
    (fun os started H enc _ F => by rw [OpenClaim.pre_eq_preRow]; exact lifted os started H enc F)

/-- no parameter wants a stand-in; the program's own looks are off -/
theorem plain (f : FuncId) (fn : Func) (hf : Tryz.pinned.checked.prog.funcNamed "callboard/callboardlaw30.SaveNames" = some f) (hfn : Tryz.pinned.checked.prog.funcs[f]? = some fn) :
    false = Tryz.pinned.checked.prog.looks [] ∧ ∀ (j : Nat) t, fn.params[j]? = some t → Tryz.pinned.checked.prog.wantsStandIn t = false := by
  obtain rfl : f = 3 := Option.some.inj ((show Tryz.prog.funcNamed "callboard/callboardlaw30.SaveNames" = some 3 by kernel_rfl).symm.trans hf) |>.symm
  obtain rfl : fn = Tryz.f3 := (Option.some.inj (Tryz.func3.symm.trans hfn)).symm
  refine ⟨by kernel_rfl, fun j t ht => ?_⟩
  have hpar : Tryz.f3.params = #[] := rfl
  rw [hpar] at ht
  simp at ht

/-- THE CARD -/
theorem proved : Rows.SaveNamesCardSaid :=
  Claim7.holds_tied_plain_at .later [] _ _ _ _ said (fun _ h => by cases h) (by kernel_rfl) (fun _ h => by cases h) saveNames_row_tie rfl ⟨rfl, rfl⟩ (by kernel_rfl) rfl plain (by kernel_rfl)
#print axioms proved
end Go.Proofs.YtdgpckkojkpmjaaGreatDoor.saveNames
