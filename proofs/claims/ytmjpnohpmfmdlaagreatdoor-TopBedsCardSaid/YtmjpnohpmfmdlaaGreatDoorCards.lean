/-
  DERIVED. GIVEN WITH THE SEED: THE CARDS: each row of YtmjpnohpmfmdlaaGreatDoorRows.lean that lists a variable, with what it lists TIED to the program's text (the seventh form; the later family's looks); each row that meets fmt, with fmt's text TOLD by the authors' own Lean function (tested against real Go, not proved from fmt's source: count such statements apart). THE CARD IS WHAT COUNTS. Prove the row's statement (the work); the ties are given (YtmjpnohpmfmdlaaGreatDoorTie.lean); close each card by the builder's one call (the guide's Derived/Test/ToyasCard.lean, 'card_holds'). Laid BY PROGRAM, IN A SANDBOX (cutbox-door.mjs). By AI agents, Wed Nov 11 2026. No macro, syntax, notation, axiom, sorry.
-/
import Derived.Test.YtmjpnohpmfmdlaaGreatDoorRows
import GoSem.ClaimSeven
namespace Go.Proofs.YtmjpnohpmfmdlaaGreatDoor
namespace Rows

/-- THE TIED CARD OF 'decanitop.TopPile'. -/
def topPileCard : Claim7 := { stood := { row := topPileRow, standIns := [], harness := (true, "a16f2c483d1bfb6af0a51ec271fb8921342d76ccdf631d7daf98991c369e5ea0"), looks := false }, kinds := [], alts := [], laidByText := true, laidKinds := [.data, .data, .data, .data], laidTests := true, laidLooks := .later }
def TopPileCardSaid : Prop := Claim7.holds Tryz.pinned (.plain (OpenSpec.ofChange topPileSpec)) topPileCard

/-- THE TIED CARD OF 'decanitop.TopMeet'. -/
def topMeetCard : Claim7 := { stood := { row := topMeetRow, standIns := [], harness := (true, "a16f2c483d1bfb6af0a51ec271fb8921342d76ccdf631d7daf98991c369e5ea0"), looks := false }, kinds := [], alts := [], laidByText := true, laidKinds := [.data, .data, .data, .data], laidTests := true, laidLooks := .later }
def TopMeetCardSaid : Prop := Claim7.holds Tryz.pinned (.plain (OpenSpec.ofChange topMeetSpec)) topMeetCard

/-- THE TIED CARD OF 'decanitop.TopBeds'. -/
def topBedsCard : Claim7 := { stood := { row := topBedsRow, standIns := [], harness := (true, "a16f2c483d1bfb6af0a51ec271fb8921342d76ccdf631d7daf98991c369e5ea0"), looks := false }, kinds := [], alts := [], laidByText := true, laidKinds := [.data, .data, .data, .data], laidTests := true, laidLooks := .later }
def TopBedsCardSaid : Prop := Claim7.holds Tryz.pinned (.plain (OpenSpec.ofChange topBedsSpec)) topBedsCard

/-- THE SECOND FORM's CARD OF 'decanitop.TopPile'. -/
def topPileUptoCard : Claim7 := { stood := { row := topPileUptoRow, standIns := [], harness := (true, "a16f2c483d1bfb6af0a51ec271fb8921342d76ccdf631d7daf98991c369e5ea0"), looks := false }, kinds := [], alts := [], laidByText := true, laidKinds := [.data, .data, .data, .data], laidTests := true, laidLooks := .later }
def TopPileUptoCardSaid : Prop := Claim7.holds Tryz.pinned (.plain (OpenSpec.upto topPileSpec)) topPileUptoCard

/-- THE SECOND FORM's CARD OF 'decanitop.TopMeet'. -/
def topMeetUptoCard : Claim7 := { stood := { row := topMeetUptoRow, standIns := [], harness := (true, "a16f2c483d1bfb6af0a51ec271fb8921342d76ccdf631d7daf98991c369e5ea0"), looks := false }, kinds := [], alts := [], laidByText := true, laidKinds := [.data, .data, .data, .data], laidTests := true, laidLooks := .later }
def TopMeetUptoCardSaid : Prop := Claim7.holds Tryz.pinned (.plain (OpenSpec.upto topMeetSpec)) topMeetUptoCard

/-- THE SECOND FORM's CARD OF 'decanitop.TopBeds'. -/
def topBedsUptoCard : Claim7 := { stood := { row := topBedsUptoRow, standIns := [], harness := (true, "a16f2c483d1bfb6af0a51ec271fb8921342d76ccdf631d7daf98991c369e5ea0"), looks := false }, kinds := [], alts := [], laidByText := true, laidKinds := [.data, .data, .data, .data], laidTests := true, laidLooks := .later }
def TopBedsUptoCardSaid : Prop := Claim7.holds Tryz.pinned (.plain (OpenSpec.upto topBedsSpec)) topBedsUptoCard
end Rows
end Go.Proofs.YtmjpnohpmfmdlaaGreatDoor
