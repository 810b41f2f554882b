/-
  DERIVED. GIVEN WITH THE SEED: THE CARDS: each row of YthbgjljkepfhcacGreatDoorRows.lean that lists a variable, with what it lists TIED to the program's text (the seventh form; the later family's looks); each row that meets fmt, with fmt's text TOLD by the authors' own Lean function (tested against real Go, not proved from fmt's source: count such statements apart). THE CARD IS WHAT COUNTS. Prove the row's statement (the work); the ties are given (YthbgjljkepfhcacGreatDoorTie.lean); close each card by the builder's one call (the guide's Derived/Test/ToyasCard.lean, 'card_holds'). Laid BY PROGRAM, IN A SANDBOX (cutbox-door.mjs). By AI agents, Wed Nov 11 2026. No macro, syntax, notation, axiom, sorry.
-/
import Derived.Test.YthbgjljkepfhcacGreatDoorRows
import GoSem.ClaimSeven
namespace Go.Proofs.YthbgjljkepfhcacGreatDoor
namespace Rows

/-- THE TIED CARD OF 'decanilaw08.OrganKnown'. -/
def organKnownCard : Claim7 := { stood := { row := organKnownRow, standIns := [], harness := (true, "3aac21f4d8f3a9d41097cb3dbb87145135fbcdb5cf0b4ebf772cd3e84e337d76"), looks := false }, kinds := [], alts := [], laidByText := true, laidKinds := [.data, .data, .data], laidTests := true, laidLooks := .later }
def OrganKnownCardSaid : Prop := Claim7.holds Tryz.pinned (.plain (OpenSpec.ofChange organKnownSpec)) organKnownCard

/-- THE SECOND FORM's CARD OF 'decanilaw08.OrganKnown'. -/
def organKnownUptoCard : Claim7 := { stood := { row := organKnownUptoRow, standIns := [], harness := (true, "3aac21f4d8f3a9d41097cb3dbb87145135fbcdb5cf0b4ebf772cd3e84e337d76"), looks := false }, kinds := [], alts := [], laidByText := true, laidKinds := [.data, .data, .data], laidTests := true, laidLooks := .later }
def OrganKnownUptoCardSaid : Prop := Claim7.holds Tryz.pinned (.plain (OpenSpec.upto organKnownSpec)) organKnownUptoCard
end Rows
end Go.Proofs.YthbgjljkepfhcacGreatDoor
