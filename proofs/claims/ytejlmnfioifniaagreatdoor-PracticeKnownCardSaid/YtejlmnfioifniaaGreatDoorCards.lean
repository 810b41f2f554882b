/-
  DERIVED. GIVEN WITH THE SEED: THE CARDS: each row of YtejlmnfioifniaaGreatDoorRows.lean that lists a variable, with what it lists TIED to the program's text (the seventh form; the later family's looks); each row that meets fmt, with fmt's text TOLD by the authors' own Lean function (tested against real Go, not proved from fmt's source: count such statements apart). THE CARD IS WHAT COUNTS. Prove the row's statement (the work); the ties are given (YtejlmnfioifniaaGreatDoorTie.lean); close each card by the builder's one call (the guide's Derived/Test/ToyasCard.lean, 'card_holds'). Laid BY PROGRAM, IN A SANDBOX (cutbox-door.mjs). By AI agents, Wed Nov 11 2026. No macro, syntax, notation, axiom, sorry.
-/
import Derived.Test.YtejlmnfioifniaaGreatDoorRows
import GoSem.ClaimSeven
namespace Go.Proofs.YtejlmnfioifniaaGreatDoor
namespace Rows

/-- THE TIED CARD OF 'decanilaw10.PracticeKnown'. -/
def practiceKnownCard : Claim7 := { stood := { row := practiceKnownRow, standIns := [], harness := (true, "772b37a32835485237dea2b9832fe5d4d26aedd2da04ffc45f234dc08b88c531"), looks := false }, kinds := [], alts := [], laidByText := true, laidKinds := [.data, .data, .data, .data, .wider], laidTests := true, laidLooks := .later }
def PracticeKnownCardSaid : Prop := Claim7.holds Tryz.pinned (.plain (OpenSpec.ofChange practiceKnownSpec)) practiceKnownCard

/-- THE SECOND FORM's CARD OF 'decanilaw10.PracticeKnown'. -/
def practiceKnownUptoCard : Claim7 := { stood := { row := practiceKnownUptoRow, standIns := [], harness := (true, "772b37a32835485237dea2b9832fe5d4d26aedd2da04ffc45f234dc08b88c531"), looks := false }, kinds := [], alts := [], laidByText := true, laidKinds := [.data, .data, .data, .data, .wider], laidTests := true, laidLooks := .later }
def PracticeKnownUptoCardSaid : Prop := Claim7.holds Tryz.pinned (.plain (OpenSpec.upto practiceKnownSpec)) practiceKnownUptoCard
end Rows
end Go.Proofs.YtejlmnfioifniaaGreatDoor
