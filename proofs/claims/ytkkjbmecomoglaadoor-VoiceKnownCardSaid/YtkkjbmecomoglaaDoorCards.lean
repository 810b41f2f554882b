/-
  DERIVED. GIVEN WITH THE SEED: THE CARDS: each row of YtkkjbmecomoglaaDoorRows.lean that lists a variable, with what it lists TIED to the program's text (the seventh form; the later family's looks); each row that meets fmt, with fmt's text TOLD by the authors' own Lean function (tested against real Go, not proved from fmt's source: count such statements apart). THE CARD IS WHAT COUNTS. Prove the row's statement (the work); the ties are given (YtkkjbmecomoglaaDoorTie.lean); close each card by the builder's one call (the guide's Derived/Test/ToyasCard.lean, 'card_holds'). Laid BY PROGRAM, IN A SANDBOX (cutbox-door.mjs). By AI agents, Wed Nov 11 2026. No macro, syntax, notation, axiom, sorry.
-/
import Derived.Test.YtkkjbmecomoglaaDoorRows
import GoSem.ClaimSeven
namespace Go.Proofs.YtkkjbmecomoglaaDoor
namespace Rows

/-- THE TIED CARD OF 'decanilaw01.OfficeKnown'. -/
def officeKnownCard : Claim7 := { stood := { row := officeKnownRow, standIns := [], harness := (true, "7ab3349ff978d6f5e29f397c293012828d8bd9dd61ae24bc85fb1a5f05a78c22"), looks := false }, kinds := [], alts := [], laidByText := true, laidKinds := [.data], laidTests := true, laidLooks := .later }
def OfficeKnownCardSaid : Prop := Claim7.holds Tryd.pinned (.plain (OpenSpec.ofChange officeKnownSpec)) officeKnownCard

/-- THE TIED CARD OF 'decanilaw02.VoiceKnown'. -/
def voiceKnownCard : Claim7 := { stood := { row := voiceKnownRow, standIns := [], harness := (true, "7ab3349ff978d6f5e29f397c293012828d8bd9dd61ae24bc85fb1a5f05a78c22"), looks := false }, kinds := [], alts := [], laidByText := true, laidKinds := [.data, .data], laidTests := true, laidLooks := .later }
def VoiceKnownCardSaid : Prop := Claim7.holds Tryd.pinned (.plain (OpenSpec.ofChange voiceKnownSpec)) voiceKnownCard

/-- THE SECOND FORM's CARD OF 'decanilaw01.OfficeKnown'. -/
def officeKnownUptoCard : Claim7 := { stood := { row := officeKnownUptoRow, standIns := [], harness := (true, "7ab3349ff978d6f5e29f397c293012828d8bd9dd61ae24bc85fb1a5f05a78c22"), looks := false }, kinds := [], alts := [], laidByText := true, laidKinds := [.data], laidTests := true, laidLooks := .later }
def OfficeKnownUptoCardSaid : Prop := Claim7.holds Tryd.pinned (.plain (OpenSpec.upto officeKnownSpec)) officeKnownUptoCard

/-- THE SECOND FORM's CARD OF 'decanilaw02.VoiceKnown'. -/
def voiceKnownUptoCard : Claim7 := { stood := { row := voiceKnownUptoRow, standIns := [], harness := (true, "7ab3349ff978d6f5e29f397c293012828d8bd9dd61ae24bc85fb1a5f05a78c22"), looks := false }, kinds := [], alts := [], laidByText := true, laidKinds := [.data, .data], laidTests := true, laidLooks := .later }
def VoiceKnownUptoCardSaid : Prop := Claim7.holds Tryd.pinned (.plain (OpenSpec.upto voiceKnownSpec)) voiceKnownUptoCard
end Rows
end Go.Proofs.YtkkjbmecomoglaaDoor
