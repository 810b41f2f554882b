/-
  DERIVED. GIVEN WITH THE SEED: THE CARDS: each row of YtgffhndedhbjlaaDoorRows.lean that lists a variable, with what it lists TIED to the program's text (the seventh form; the later family's looks); each row that meets fmt, with fmt's text TOLD by the authors' own Lean function (tested against real Go, not proved from fmt's source: count such statements apart). THE CARD IS WHAT COUNTS. Prove the row's statement (the work); the ties are given (YtgffhndedhbjlaaDoorTie.lean); close each card by the builder's one call (the guide's Derived/Test/ToyasCard.lean, 'card_holds'). Laid BY PROGRAM, IN A SANDBOX (cutbox-door.mjs). By AI agents, Wed Nov 11 2026. No macro, syntax, notation, axiom, sorry.
-/
import Derived.Test.YtgffhndedhbjlaaDoorRows
import GoSem.ClaimSeven
namespace Go.Proofs.YtgffhndedhbjlaaDoor
namespace Rows

/-- THE TIED CARD OF 'decanilaw02.VoiceTops'. -/
def voiceTopsCard : Claim7 := { stood := { row := voiceTopsRow, standIns := [], harness := (true, "582e94aa9929fb8981e6d2afd0790621e7704627b881c92c0a7369938743bfb3"), looks := false }, kinds := [], alts := [], laidByText := true, laidKinds := [.data, .data], laidTests := true, laidLooks := .later }
def VoiceTopsCardSaid : Prop := Claim7.holds Tryd.pinned (.plain (OpenSpec.ofChange voiceTopsSpec)) voiceTopsCard

/-- THE TIED CARD OF 'decanilaw02.VoiceHeir'. -/
def voiceHeirCard : Claim7 := { stood := { row := voiceHeirRow, standIns := [], harness := (true, "582e94aa9929fb8981e6d2afd0790621e7704627b881c92c0a7369938743bfb3"), looks := false }, kinds := [], alts := [], laidByText := true, laidKinds := [.data, .data], laidTests := true, laidLooks := .later }
def VoiceHeirCardSaid : Prop := Claim7.holds Tryd.pinned (.plain (OpenSpec.ofChange voiceHeirSpec)) voiceHeirCard

/-- THE TIED CARD OF 'decanilaw02.VoiceGains'. -/
def voiceGainsCard : Claim7 := { stood := { row := voiceGainsRow, standIns := [], harness := (true, "582e94aa9929fb8981e6d2afd0790621e7704627b881c92c0a7369938743bfb3"), looks := false }, kinds := [], alts := [], laidByText := true, laidKinds := [.data, .data], laidTests := true, laidLooks := .later }
def VoiceGainsCardSaid : Prop := Claim7.holds Tryd.pinned (.plain (OpenSpec.ofChange voiceGainsSpec)) voiceGainsCard

/-- THE SECOND FORM's CARD OF 'decanilaw02.VoiceTops'. -/
def voiceTopsUptoCard : Claim7 := { stood := { row := voiceTopsUptoRow, standIns := [], harness := (true, "582e94aa9929fb8981e6d2afd0790621e7704627b881c92c0a7369938743bfb3"), looks := false }, kinds := [], alts := [], laidByText := true, laidKinds := [.data, .data], laidTests := true, laidLooks := .later }
def VoiceTopsUptoCardSaid : Prop := Claim7.holds Tryd.pinned (.plain (OpenSpec.upto voiceTopsSpec)) voiceTopsUptoCard

/-- THE SECOND FORM's CARD OF 'decanilaw02.VoiceHeir'. -/
def voiceHeirUptoCard : Claim7 := { stood := { row := voiceHeirUptoRow, standIns := [], harness := (true, "582e94aa9929fb8981e6d2afd0790621e7704627b881c92c0a7369938743bfb3"), looks := false }, kinds := [], alts := [], laidByText := true, laidKinds := [.data, .data], laidTests := true, laidLooks := .later }
def VoiceHeirUptoCardSaid : Prop := Claim7.holds Tryd.pinned (.plain (OpenSpec.upto voiceHeirSpec)) voiceHeirUptoCard

/-- THE SECOND FORM's CARD OF 'decanilaw02.VoiceGains'. -/
def voiceGainsUptoCard : Claim7 := { stood := { row := voiceGainsUptoRow, standIns := [], harness := (true, "582e94aa9929fb8981e6d2afd0790621e7704627b881c92c0a7369938743bfb3"), looks := false }, kinds := [], alts := [], laidByText := true, laidKinds := [.data, .data], laidTests := true, laidLooks := .later }
def VoiceGainsUptoCardSaid : Prop := Claim7.holds Tryd.pinned (.plain (OpenSpec.upto voiceGainsSpec)) voiceGainsUptoCard
end Rows
end Go.Proofs.YtgffhndedhbjlaaDoor
