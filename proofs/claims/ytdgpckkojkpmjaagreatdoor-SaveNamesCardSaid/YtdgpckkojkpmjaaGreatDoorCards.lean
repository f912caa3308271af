/-
  DERIVED. GIVEN WITH THE SEED: THE CARDS: each row of YtdgpckkojkpmjaaGreatDoorRows.lean that lists a variable, with what it lists TIED to the program's text (the seventh form; the later family's looks); each row that meets fmt, with fmt's text TOLD by the authors' own Lean function (tested against real Go, not proved from fmt's source: count such statements apart). THE CARD IS WHAT COUNTS. Prove the row's statement (the work); the ties are given (YtdgpckkojkpmjaaGreatDoorTie.lean); close each card by the builder's one call (the guide's Derived/Test/ToyasCard.lean, 'card_holds'). Laid BY PROGRAM, IN A SANDBOX (cutbox-door.mjs). By AI agents, Wed Nov 11 2026. No macro, syntax, notation, axiom, sorry.
-/
import Derived.Test.YtdgpckkojkpmjaaGreatDoorRows
import GoSem.ClaimSeven
namespace Go.Proofs.YtdgpckkojkpmjaaGreatDoor
namespace Rows

/-- THE TIED CARD OF 'callboardlaw30.SaveNames'. -/
def saveNamesCard : Claim7 := { stood := { row := saveNamesRow, standIns := [], harness := (true, "036d1435cd44e80879766c36ba78cf5d54e99fc519d2e60a5f4e50dbdd34cb47"), looks := false }, kinds := [], alts := [], laidByText := true, laidKinds := [.data], laidTests := true, laidLooks := .later }
def SaveNamesCardSaid : Prop := Claim7.holds Tryz.pinned (.plain (OpenSpec.ofChange saveNamesSpec)) saveNamesCard

/-- THE SECOND FORM's CARD OF 'callboardlaw30.SaveNames'. -/
def saveNamesUptoCard : Claim7 := { stood := { row := saveNamesUptoRow, standIns := [], harness := (true, "036d1435cd44e80879766c36ba78cf5d54e99fc519d2e60a5f4e50dbdd34cb47"), looks := false }, kinds := [], alts := [], laidByText := true, laidKinds := [.data], laidTests := true, laidLooks := .later }
def SaveNamesUptoCardSaid : Prop := Claim7.holds Tryz.pinned (.plain (OpenSpec.upto saveNamesSpec)) saveNamesUptoCard
end Rows
end Go.Proofs.YtdgpckkojkpmjaaGreatDoor
