/-
  DERIVED. GIVEN WITH THE SEED: THE CARDS: each row of YtlnbhokokhecdaaGreatDoorRows.lean that lists a variable, with what it lists TIED to the program's text (the seventh form; the later family's looks); each row that meets fmt, with fmt's text TOLD by the authors' own Lean function (tested against real Go, not proved from fmt's source: count such statements apart). THE CARD IS WHAT COUNTS. Prove the row's statement (the work); the ties are given (YtlnbhokokhecdaaGreatDoorTie.lean); close each card by the builder's one call (the guide's Derived/Test/ToyasCard.lean, 'card_holds'). Laid BY PROGRAM, IN A SANDBOX (cutbox-door.mjs). By AI agents, Wed Nov 11 2026. No macro, syntax, notation, axiom, sorry.
-/
import Derived.Test.YtlnbhokokhecdaaGreatDoorRows
import GoSem.ClaimSeven
namespace Go.Proofs.YtlnbhokokhecdaaGreatDoor
namespace Rows

/-- THE TIED CARD OF 'decanilaw09.FounderKnown'. -/
def founderKnownCard : Claim7 := { stood := { row := founderKnownRow, standIns := [], harness := (true, "a0eea931396144d951b5e515bfa8cd07aebcd6cda7b2aba9e21350d459f33c84"), looks := false }, kinds := [], alts := [], laidByText := true, laidKinds := [.data, .data, .data], laidTests := true, laidLooks := .later }
def FounderKnownCardSaid : Prop := Claim7.holds Tryz.pinned (.plain (OpenSpec.ofChange founderKnownSpec)) founderKnownCard

/-- THE SECOND FORM's CARD OF 'decanilaw09.FounderKnown'. -/
def founderKnownUptoCard : Claim7 := { stood := { row := founderKnownUptoRow, standIns := [], harness := (true, "a0eea931396144d951b5e515bfa8cd07aebcd6cda7b2aba9e21350d459f33c84"), looks := false }, kinds := [], alts := [], laidByText := true, laidKinds := [.data, .data, .data], laidTests := true, laidLooks := .later }
def FounderKnownUptoCardSaid : Prop := Claim7.holds Tryz.pinned (.plain (OpenSpec.upto founderKnownSpec)) founderKnownUptoCard
end Rows
end Go.Proofs.YtlnbhokokhecdaaGreatDoor
