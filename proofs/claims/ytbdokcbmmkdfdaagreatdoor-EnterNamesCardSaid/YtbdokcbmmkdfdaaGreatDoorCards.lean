/-
  DERIVED. GIVEN WITH THE SEED: THE CARDS: each row of YtbdokcbmmkdfdaaGreatDoorRows.lean that lists a variable, with what it lists TIED to the program's text (the seventh form; the later family's looks); each row that meets fmt, with fmt's text TOLD by the authors' own Lean function (tested against real Go, not proved from fmt's source: count such statements apart). THE CARD IS WHAT COUNTS. Prove the row's statement (the work); the ties are given (YtbdokcbmmkdfdaaGreatDoorTie.lean); close each card by the builder's one call (the guide's Derived/Test/ToyasCard.lean, 'card_holds'). Laid BY PROGRAM, IN A SANDBOX (cutbox-door.mjs). By AI agents, Wed Nov 11 2026. No macro, syntax, notation, axiom, sorry.
-/
import Derived.Test.YtbdokcbmmkdfdaaGreatDoorRows
import GoSem.ClaimSeven
namespace Go.Proofs.YtbdokcbmmkdfdaaGreatDoor
namespace Rows

/-- THE TIED CARD OF 'callboardlaw24.EnterNames'. -/
def enterNamesCard : Claim7 := { stood := { row := enterNamesRow, standIns := [], harness := (true, "2335f34f1bacc8e6a146687d54040330fc4440f2886be584ea9bef001535d7eb"), looks := true }, kinds := [], alts := [], laidByText := true, laidKinds := [.data, .data, .data, .data, .sentinel, .sentinel, .data, .data, .pinned], laidTests := true, laidLooks := .later }
def EnterNamesCardSaid : Prop := Claim7.holds Tryz.pinned (.plain (OpenSpec.ofChange enterNamesSpec)) enterNamesCard

/-- THE TIED CARD OF 'callboardlaw25.FireNames'. -/
def fireNamesCard : Claim7 := { stood := { row := fireNamesRow, standIns := [], harness := (true, "2335f34f1bacc8e6a146687d54040330fc4440f2886be584ea9bef001535d7eb"), looks := true }, kinds := [], alts := [], laidByText := true, laidKinds := [.data, .data, .data, .data, .sentinel, .sentinel, .data, .data, .pinned], laidTests := true, laidLooks := .later }
def FireNamesCardSaid : Prop := Claim7.holds Tryz.pinned (.plain (OpenSpec.ofChange fireNamesSpec)) fireNamesCard

/-- THE TIED CARD OF 'callboardlaw26.FinishNames'. -/
def finishNamesCard : Claim7 := { stood := { row := finishNamesRow, standIns := [], harness := (true, "2335f34f1bacc8e6a146687d54040330fc4440f2886be584ea9bef001535d7eb"), looks := true }, kinds := [], alts := [], laidByText := true, laidKinds := [.data, .data, .data, .data, .sentinel, .sentinel, .data, .data, .pinned], laidTests := true, laidLooks := .later }
def FinishNamesCardSaid : Prop := Claim7.holds Tryz.pinned (.plain (OpenSpec.ofChange finishNamesSpec)) finishNamesCard

/-- THE TIED CARD OF 'callboardlaw27.CastNames'. -/
def castNamesCard : Claim7 := { stood := { row := castNamesRow, standIns := [], harness := (true, "2335f34f1bacc8e6a146687d54040330fc4440f2886be584ea9bef001535d7eb"), looks := true }, kinds := [], alts := [], laidByText := true, laidKinds := [.data, .data, .data, .data, .sentinel, .sentinel, .data, .data, .pinned], laidTests := true, laidLooks := .later }
def CastNamesCardSaid : Prop := Claim7.holds Tryz.pinned (.plain (OpenSpec.ofChange castNamesSpec)) castNamesCard

/-- THE TIED CARD OF 'callboardlaw28.StepNames'. -/
def stepNamesCard : Claim7 := { stood := { row := stepNamesRow, standIns := [], harness := (true, "2335f34f1bacc8e6a146687d54040330fc4440f2886be584ea9bef001535d7eb"), looks := true }, kinds := [], alts := [], laidByText := true, laidKinds := [.data, .data, .data, .data, .sentinel, .sentinel, .data, .data, .pinned], laidTests := true, laidLooks := .later }
def StepNamesCardSaid : Prop := Claim7.holds Tryz.pinned (.plain (OpenSpec.ofChange stepNamesSpec)) stepNamesCard

/-- THE SECOND FORM's CARD OF 'callboardlaw24.EnterNames'. -/
def enterNamesUptoCard : Claim7 := { stood := { row := enterNamesUptoRow, standIns := [], harness := (true, "2335f34f1bacc8e6a146687d54040330fc4440f2886be584ea9bef001535d7eb"), looks := true }, kinds := [], alts := [], laidByText := true, laidKinds := [.data, .data, .data, .data, .sentinel, .sentinel, .data, .data, .pinned], laidTests := true, laidLooks := .later }
def EnterNamesUptoCardSaid : Prop := Claim7.holds Tryz.pinned (.plain (OpenSpec.upto enterNamesSpec)) enterNamesUptoCard

/-- THE SECOND FORM's CARD OF 'callboardlaw25.FireNames'. -/
def fireNamesUptoCard : Claim7 := { stood := { row := fireNamesUptoRow, standIns := [], harness := (true, "2335f34f1bacc8e6a146687d54040330fc4440f2886be584ea9bef001535d7eb"), looks := true }, kinds := [], alts := [], laidByText := true, laidKinds := [.data, .data, .data, .data, .sentinel, .sentinel, .data, .data, .pinned], laidTests := true, laidLooks := .later }
def FireNamesUptoCardSaid : Prop := Claim7.holds Tryz.pinned (.plain (OpenSpec.upto fireNamesSpec)) fireNamesUptoCard

/-- THE SECOND FORM's CARD OF 'callboardlaw26.FinishNames'. -/
def finishNamesUptoCard : Claim7 := { stood := { row := finishNamesUptoRow, standIns := [], harness := (true, "2335f34f1bacc8e6a146687d54040330fc4440f2886be584ea9bef001535d7eb"), looks := true }, kinds := [], alts := [], laidByText := true, laidKinds := [.data, .data, .data, .data, .sentinel, .sentinel, .data, .data, .pinned], laidTests := true, laidLooks := .later }
def FinishNamesUptoCardSaid : Prop := Claim7.holds Tryz.pinned (.plain (OpenSpec.upto finishNamesSpec)) finishNamesUptoCard

/-- THE SECOND FORM's CARD OF 'callboardlaw27.CastNames'. -/
def castNamesUptoCard : Claim7 := { stood := { row := castNamesUptoRow, standIns := [], harness := (true, "2335f34f1bacc8e6a146687d54040330fc4440f2886be584ea9bef001535d7eb"), looks := true }, kinds := [], alts := [], laidByText := true, laidKinds := [.data, .data, .data, .data, .sentinel, .sentinel, .data, .data, .pinned], laidTests := true, laidLooks := .later }
def CastNamesUptoCardSaid : Prop := Claim7.holds Tryz.pinned (.plain (OpenSpec.upto castNamesSpec)) castNamesUptoCard

/-- THE SECOND FORM's CARD OF 'callboardlaw28.StepNames'. -/
def stepNamesUptoCard : Claim7 := { stood := { row := stepNamesUptoRow, standIns := [], harness := (true, "2335f34f1bacc8e6a146687d54040330fc4440f2886be584ea9bef001535d7eb"), looks := true }, kinds := [], alts := [], laidByText := true, laidKinds := [.data, .data, .data, .data, .sentinel, .sentinel, .data, .data, .pinned], laidTests := true, laidLooks := .later }
def StepNamesUptoCardSaid : Prop := Claim7.holds Tryz.pinned (.plain (OpenSpec.upto stepNamesSpec)) stepNamesUptoCard
end Rows
end Go.Proofs.YtbdokcbmmkdfdaaGreatDoor
