/-
  DERIVED. GIVEN WITH THE SEED: THE CARDS: each row of YthkcgengohoboaaGreatDoorRows.lean that lists a variable, with what it lists TIED to the program's text (the seventh form; the later family's looks); each row that meets fmt, with fmt's text TOLD by the authors' own Lean function (tested against real Go, not proved from fmt's source: count such statements apart). THE CARD IS WHAT COUNTS. Prove the row's statement (the work); the ties are given (YthkcgengohoboaaGreatDoorTie.lean); close each card by the builder's one call (the guide's Derived/Test/ToyasCard.lean, 'card_holds'). Laid BY PROGRAM, IN A SANDBOX (cutbox-door.mjs). By AI agents, Wed Nov 11 2026. No macro, syntax, notation, axiom, sorry.
-/
import Derived.Test.YthkcgengohoboaaGreatDoorRows
import GoSem.ClaimSeven
namespace Go.Proofs.YthkcgengohoboaaGreatDoor
namespace Rows

/-- THE TIED CARD OF 'decanilaw02.VoiceNotes'. -/
def voiceNotesCard : Claim7 := { stood := { row := voiceNotesRow, standIns := [], harness := (true, "5c4b87f4a7cbbbc90cfe47ae55d5aaa8e70e54cf31c79c0fc3f89bc86bf81c0e"), looks := false }, kinds := [], alts := [], laidByText := true, laidKinds := [.data, .data], laidTests := true, laidLooks := .later }
def VoiceNotesCardSaid : Prop := Claim7.holds Tryz.pinned (.plain (OpenSpec.ofChange voiceNotesSpec)) voiceNotesCard

/-- THE TIED CARD OF 'decanilaw02.VoiceSings'. -/
def voiceSingsCard : Claim7 := { stood := { row := voiceSingsRow, standIns := [], harness := (true, "5c4b87f4a7cbbbc90cfe47ae55d5aaa8e70e54cf31c79c0fc3f89bc86bf81c0e"), looks := false }, kinds := [], alts := [], laidByText := true, laidKinds := [.data, .data], laidTests := true, laidLooks := .later }
def VoiceSingsCardSaid : Prop := Claim7.holds Tryz.pinned (.plain (OpenSpec.ofChange voiceSingsSpec)) voiceSingsCard

/-- THE TIED CARD OF 'decanilaw02.VoiceFits'. -/
def voiceFitsCard : Claim7 := { stood := { row := voiceFitsRow, standIns := [], harness := (true, "5c4b87f4a7cbbbc90cfe47ae55d5aaa8e70e54cf31c79c0fc3f89bc86bf81c0e"), looks := false }, kinds := [], alts := [], laidByText := true, laidKinds := [.data, .data], laidTests := true, laidLooks := .later }
def VoiceFitsCardSaid : Prop := Claim7.holds Tryz.pinned (.plain (OpenSpec.ofChange voiceFitsSpec)) voiceFitsCard

/-- THE TIED CARD OF 'decanilaw02.VoiceTrue'. -/
def voiceTrueCard : Claim7 := { stood := { row := voiceTrueRow, standIns := [], harness := (true, "5c4b87f4a7cbbbc90cfe47ae55d5aaa8e70e54cf31c79c0fc3f89bc86bf81c0e"), looks := false }, kinds := [], alts := [], laidByText := true, laidKinds := [.data, .data], laidTests := true, laidLooks := .later }
def VoiceTrueCardSaid : Prop := Claim7.holds Tryz.pinned (.plain (OpenSpec.ofChange voiceTrueSpec)) voiceTrueCard

/-- THE TIED CARD OF 'decanilaw07.BenchKnown'. -/
def benchKnownCard : Claim7 := { stood := { row := benchKnownRow, standIns := [], harness := (true, "5c4b87f4a7cbbbc90cfe47ae55d5aaa8e70e54cf31c79c0fc3f89bc86bf81c0e"), looks := false }, kinds := [], alts := [], laidByText := true, laidKinds := [.data, .data, .data], laidTests := true, laidLooks := .later }
def BenchKnownCardSaid : Prop := Claim7.holds Tryz.pinned (.plain (OpenSpec.ofChange benchKnownSpec)) benchKnownCard

/-- THE SECOND FORM's CARD OF 'decanilaw02.VoiceNotes'. -/
def voiceNotesUptoCard : Claim7 := { stood := { row := voiceNotesUptoRow, standIns := [], harness := (true, "5c4b87f4a7cbbbc90cfe47ae55d5aaa8e70e54cf31c79c0fc3f89bc86bf81c0e"), looks := false }, kinds := [], alts := [], laidByText := true, laidKinds := [.data, .data], laidTests := true, laidLooks := .later }
def VoiceNotesUptoCardSaid : Prop := Claim7.holds Tryz.pinned (.plain (OpenSpec.upto voiceNotesSpec)) voiceNotesUptoCard

/-- THE SECOND FORM's CARD OF 'decanilaw02.VoiceSings'. -/
def voiceSingsUptoCard : Claim7 := { stood := { row := voiceSingsUptoRow, standIns := [], harness := (true, "5c4b87f4a7cbbbc90cfe47ae55d5aaa8e70e54cf31c79c0fc3f89bc86bf81c0e"), looks := false }, kinds := [], alts := [], laidByText := true, laidKinds := [.data, .data], laidTests := true, laidLooks := .later }
def VoiceSingsUptoCardSaid : Prop := Claim7.holds Tryz.pinned (.plain (OpenSpec.upto voiceSingsSpec)) voiceSingsUptoCard

/-- THE SECOND FORM's CARD OF 'decanilaw02.VoiceFits'. -/
def voiceFitsUptoCard : Claim7 := { stood := { row := voiceFitsUptoRow, standIns := [], harness := (true, "5c4b87f4a7cbbbc90cfe47ae55d5aaa8e70e54cf31c79c0fc3f89bc86bf81c0e"), looks := false }, kinds := [], alts := [], laidByText := true, laidKinds := [.data, .data], laidTests := true, laidLooks := .later }
def VoiceFitsUptoCardSaid : Prop := Claim7.holds Tryz.pinned (.plain (OpenSpec.upto voiceFitsSpec)) voiceFitsUptoCard

/-- THE SECOND FORM's CARD OF 'decanilaw02.VoiceTrue'. -/
def voiceTrueUptoCard : Claim7 := { stood := { row := voiceTrueUptoRow, standIns := [], harness := (true, "5c4b87f4a7cbbbc90cfe47ae55d5aaa8e70e54cf31c79c0fc3f89bc86bf81c0e"), looks := false }, kinds := [], alts := [], laidByText := true, laidKinds := [.data, .data], laidTests := true, laidLooks := .later }
def VoiceTrueUptoCardSaid : Prop := Claim7.holds Tryz.pinned (.plain (OpenSpec.upto voiceTrueSpec)) voiceTrueUptoCard

/-- THE SECOND FORM's CARD OF 'decanilaw07.BenchKnown'. -/
def benchKnownUptoCard : Claim7 := { stood := { row := benchKnownUptoRow, standIns := [], harness := (true, "5c4b87f4a7cbbbc90cfe47ae55d5aaa8e70e54cf31c79c0fc3f89bc86bf81c0e"), looks := false }, kinds := [], alts := [], laidByText := true, laidKinds := [.data, .data, .data], laidTests := true, laidLooks := .later }
def BenchKnownUptoCardSaid : Prop := Claim7.holds Tryz.pinned (.plain (OpenSpec.upto benchKnownSpec)) benchKnownUptoCard
end Rows
end Go.Proofs.YthkcgengohoboaaGreatDoor
