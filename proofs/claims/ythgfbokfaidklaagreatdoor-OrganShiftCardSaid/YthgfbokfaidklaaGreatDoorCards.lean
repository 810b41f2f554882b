/-
  DERIVED. GIVEN WITH THE SEED: THE CARDS: each row of YthgfbokfaidklaaGreatDoorRows.lean that lists a variable, with what it lists TIED to the program's text (the seventh form; the later family's looks); each row that meets fmt, with fmt's text TOLD by the authors' own Lean function (tested against real Go, not proved from fmt's source: count such statements apart). THE CARD IS WHAT COUNTS. Prove the row's statement (the work); the ties are given (YthgfbokfaidklaaGreatDoorTie.lean); close each card by the builder's one call (the guide's Derived/Test/ToyasCard.lean, 'card_holds'). Laid BY PROGRAM, IN A SANDBOX (cutbox-door.mjs). By AI agents, Wed Nov 11 2026. No macro, syntax, notation, axiom, sorry.
-/
import Derived.Test.YthgfbokfaidklaaGreatDoorRows
import GoSem.ClaimSeven
namespace Go.Proofs.YthgfbokfaidklaaGreatDoor
namespace Rows

/-- THE TIED CARD OF 'decanilaw08.OrganSings'. -/
def organSingsCard : Claim7 := { stood := { row := organSingsRow, standIns := [], harness := (true, "adc118102b576362af84347bc0f77ad6379f6116131371dcce160aa089cb0024"), looks := false }, kinds := [], alts := [], laidByText := true, laidKinds := [.data, .data, .data], laidTests := true, laidLooks := .later }
def OrganSingsCardSaid : Prop := Claim7.holds Tryz.pinned (.plain (OpenSpec.ofChange organSingsSpec)) organSingsCard

/-- THE TIED CARD OF 'decanilaw08.OrganTurn'. -/
def organTurnCard : Claim7 := { stood := { row := organTurnRow, standIns := [], harness := (true, "adc118102b576362af84347bc0f77ad6379f6116131371dcce160aa089cb0024"), looks := false }, kinds := [], alts := [], laidByText := true, laidKinds := [.data, .data, .data], laidTests := true, laidLooks := .later }
def OrganTurnCardSaid : Prop := Claim7.holds Tryz.pinned (.plain (OpenSpec.ofChange organTurnSpec)) organTurnCard

/-- THE TIED CARD OF 'decanilaw08.OrganLess'. -/
def organLessCard : Claim7 := { stood := { row := organLessRow, standIns := [], harness := (true, "adc118102b576362af84347bc0f77ad6379f6116131371dcce160aa089cb0024"), looks := false }, kinds := [], alts := [], laidByText := true, laidKinds := [.data, .data, .data], laidTests := true, laidLooks := .later }
def OrganLessCardSaid : Prop := Claim7.holds Tryz.pinned (.plain (OpenSpec.ofChange organLessSpec)) organLessCard

/-- THE TIED CARD OF 'decanilaw08.OrganShift'. -/
def organShiftCard : Claim7 := { stood := { row := organShiftRow, standIns := [], harness := (true, "adc118102b576362af84347bc0f77ad6379f6116131371dcce160aa089cb0024"), looks := false }, kinds := [], alts := [], laidByText := true, laidKinds := [.data, .data, .data], laidTests := true, laidLooks := .later }
def OrganShiftCardSaid : Prop := Claim7.holds Tryz.pinned (.plain (OpenSpec.ofChange organShiftSpec)) organShiftCard

/-- THE SECOND FORM's CARD OF 'decanilaw08.OrganSings'. -/
def organSingsUptoCard : Claim7 := { stood := { row := organSingsUptoRow, standIns := [], harness := (true, "adc118102b576362af84347bc0f77ad6379f6116131371dcce160aa089cb0024"), looks := false }, kinds := [], alts := [], laidByText := true, laidKinds := [.data, .data, .data], laidTests := true, laidLooks := .later }
def OrganSingsUptoCardSaid : Prop := Claim7.holds Tryz.pinned (.plain (OpenSpec.upto organSingsSpec)) organSingsUptoCard

/-- THE SECOND FORM's CARD OF 'decanilaw08.OrganTurn'. -/
def organTurnUptoCard : Claim7 := { stood := { row := organTurnUptoRow, standIns := [], harness := (true, "adc118102b576362af84347bc0f77ad6379f6116131371dcce160aa089cb0024"), looks := false }, kinds := [], alts := [], laidByText := true, laidKinds := [.data, .data, .data], laidTests := true, laidLooks := .later }
def OrganTurnUptoCardSaid : Prop := Claim7.holds Tryz.pinned (.plain (OpenSpec.upto organTurnSpec)) organTurnUptoCard

/-- THE SECOND FORM's CARD OF 'decanilaw08.OrganLess'. -/
def organLessUptoCard : Claim7 := { stood := { row := organLessUptoRow, standIns := [], harness := (true, "adc118102b576362af84347bc0f77ad6379f6116131371dcce160aa089cb0024"), looks := false }, kinds := [], alts := [], laidByText := true, laidKinds := [.data, .data, .data], laidTests := true, laidLooks := .later }
def OrganLessUptoCardSaid : Prop := Claim7.holds Tryz.pinned (.plain (OpenSpec.upto organLessSpec)) organLessUptoCard

/-- THE SECOND FORM's CARD OF 'decanilaw08.OrganShift'. -/
def organShiftUptoCard : Claim7 := { stood := { row := organShiftUptoRow, standIns := [], harness := (true, "adc118102b576362af84347bc0f77ad6379f6116131371dcce160aa089cb0024"), looks := false }, kinds := [], alts := [], laidByText := true, laidKinds := [.data, .data, .data], laidTests := true, laidLooks := .later }
def OrganShiftUptoCardSaid : Prop := Claim7.holds Tryz.pinned (.plain (OpenSpec.upto organShiftSpec)) organShiftUptoCard
end Rows
end Go.Proofs.YthgfbokfaidklaaGreatDoor
