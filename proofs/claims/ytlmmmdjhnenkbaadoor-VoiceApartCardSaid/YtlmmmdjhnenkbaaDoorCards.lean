/-
  DERIVED. GIVEN WITH THE SEED: THE CARDS: each row of YtlmmmdjhnenkbaaDoorRows.lean that lists a variable, with what it lists TIED to the program's text (the seventh form; the later family's looks); each row that meets fmt, with fmt's text TOLD by the authors' own Lean function (tested against real Go, not proved from fmt's source: count such statements apart). THE CARD IS WHAT COUNTS. Prove the row's statement (the work); the ties are given (YtlmmmdjhnenkbaaDoorTie.lean); close each card by the builder's one call (the guide's Derived/Test/ToyasCard.lean, 'card_holds'). Laid BY PROGRAM, IN A SANDBOX (cutbox-door.mjs). By AI agents, Wed Nov 11 2026. No macro, syntax, notation, axiom, sorry.
-/
import Derived.Test.YtlmmmdjhnenkbaaDoorRows
import GoSem.ClaimSeven
namespace Go.Proofs.YtlmmmdjhnenkbaaDoor
namespace Rows

/-- THE TIED CARD OF 'decanilaw02.VoiceMore'. -/
def voiceMoreCard : Claim7 := { stood := { row := voiceMoreRow, standIns := [], harness := (true, "93d67a5b0d7ffdafc36c76244bffe898c5766bcebfd9a505caa4b23f0e8eedfe"), looks := false }, kinds := [], alts := [], laidByText := true, laidKinds := [.data, .data], laidTests := true, laidLooks := .later }
def VoiceMoreCardSaid : Prop := Claim7.holds Tryd.pinned (.plain (OpenSpec.ofChange voiceMoreSpec)) voiceMoreCard

/-- THE TIED CARD OF 'decanilaw02.VoiceApart'. -/
def voiceApartCard : Claim7 := { stood := { row := voiceApartRow, standIns := [], harness := (true, "93d67a5b0d7ffdafc36c76244bffe898c5766bcebfd9a505caa4b23f0e8eedfe"), looks := false }, kinds := [], alts := [], laidByText := true, laidKinds := [.data, .data], laidTests := true, laidLooks := .later }
def VoiceApartCardSaid : Prop := Claim7.holds Tryd.pinned (.plain (OpenSpec.ofChange voiceApartSpec)) voiceApartCard

/-- THE SECOND FORM's CARD OF 'decanilaw02.VoiceMore'. -/
def voiceMoreUptoCard : Claim7 := { stood := { row := voiceMoreUptoRow, standIns := [], harness := (true, "93d67a5b0d7ffdafc36c76244bffe898c5766bcebfd9a505caa4b23f0e8eedfe"), looks := false }, kinds := [], alts := [], laidByText := true, laidKinds := [.data, .data], laidTests := true, laidLooks := .later }
def VoiceMoreUptoCardSaid : Prop := Claim7.holds Tryd.pinned (.plain (OpenSpec.upto voiceMoreSpec)) voiceMoreUptoCard

/-- THE SECOND FORM's CARD OF 'decanilaw02.VoiceApart'. -/
def voiceApartUptoCard : Claim7 := { stood := { row := voiceApartUptoRow, standIns := [], harness := (true, "93d67a5b0d7ffdafc36c76244bffe898c5766bcebfd9a505caa4b23f0e8eedfe"), looks := false }, kinds := [], alts := [], laidByText := true, laidKinds := [.data, .data], laidTests := true, laidLooks := .later }
def VoiceApartUptoCardSaid : Prop := Claim7.holds Tryd.pinned (.plain (OpenSpec.upto voiceApartSpec)) voiceApartUptoCard
end Rows
end Go.Proofs.YtlmmmdjhnenkbaaDoor
