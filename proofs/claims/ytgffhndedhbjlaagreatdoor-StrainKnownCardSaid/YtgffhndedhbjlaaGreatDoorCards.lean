/-
  DERIVED. GIVEN WITH THE SEED: THE CARDS: each row of YtgffhndedhbjlaaGreatDoorRows.lean that lists a variable, with what it lists TIED to the program's text (the seventh form; the later family's looks); each row that meets fmt, with fmt's text TOLD by the authors' own Lean function (tested against real Go, not proved from fmt's source: count such statements apart). THE CARD IS WHAT COUNTS. Prove the row's statement (the work); the ties are given (YtgffhndedhbjlaaGreatDoorTie.lean); close each card by the builder's one call (the guide's Derived/Test/ToyasCard.lean, 'card_holds'). Laid BY PROGRAM, IN A SANDBOX (cutbox-door.mjs). By AI agents, Wed Nov 11 2026. No macro, syntax, notation, axiom, sorry.
-/
import Derived.Test.YtgffhndedhbjlaaGreatDoorRows
import GoSem.ClaimSeven
namespace Go.Proofs.YtgffhndedhbjlaaGreatDoor
namespace Rows

/-- THE TIED CARD OF 'decanilaw04.StrainKnown'. -/
def strainKnownCard : Claim7 := { stood := { row := strainKnownRow, standIns := [], harness := (true, "0ecdbeaa7ce7ed65f8ca97b6608af375dd3203a003b352af34cca7667c03c71d"), looks := false }, kinds := [], alts := [], laidByText := true, laidKinds := [.data, .data], laidTests := true, laidLooks := .later }
def StrainKnownCardSaid : Prop := Claim7.holds Tryz.pinned (.plain (OpenSpec.ofChange strainKnownSpec)) strainKnownCard

/-- THE SECOND FORM's CARD OF 'decanilaw04.StrainKnown'. -/
def strainKnownUptoCard : Claim7 := { stood := { row := strainKnownUptoRow, standIns := [], harness := (true, "0ecdbeaa7ce7ed65f8ca97b6608af375dd3203a003b352af34cca7667c03c71d"), looks := false }, kinds := [], alts := [], laidByText := true, laidKinds := [.data, .data], laidTests := true, laidLooks := .later }
def StrainKnownUptoCardSaid : Prop := Claim7.holds Tryz.pinned (.plain (OpenSpec.upto strainKnownSpec)) strainKnownUptoCard
end Rows
end Go.Proofs.YtgffhndedhbjlaaGreatDoor
