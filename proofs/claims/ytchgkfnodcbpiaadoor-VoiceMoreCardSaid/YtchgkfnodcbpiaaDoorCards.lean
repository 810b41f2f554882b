/-
  DERIVED. GIVEN WITH THE SEED: THE CARDS: each row of YtchgkfnodcbpiaaDoorRows.lean that lists a variable, with what it lists TIED to the program's text (the seventh form; the later family's looks); each row that meets fmt, with fmt's text TOLD by the authors' own Lean function (tested against real Go, not proved from fmt's source: count such statements apart). THE CARD IS WHAT COUNTS. Prove the row's statement (the work); the ties are given (YtchgkfnodcbpiaaDoorTie.lean); close each card by the builder's one call (the guide's Derived/Test/ToyasCard.lean, 'card_holds'). Laid BY PROGRAM, IN A SANDBOX (cutbox-door.mjs). By AI agents, Wed Nov 11 2026. No macro, syntax, notation, axiom, sorry.
-/
import Derived.Test.YtchgkfnodcbpiaaDoorRows
import GoSem.ClaimSeven
namespace Go.Proofs.YtchgkfnodcbpiaaDoor
namespace Rows

/-- THE TIED CARD OF 'decanilaw02.VoiceMore'. -/
def voiceMoreCard : Claim7 := { stood := { row := voiceMoreRow, standIns := [], harness := (true, "1fe02e092f358b022fb2d1289528f226cd0b3f899295aab512013b537510d860"), looks := false }, kinds := [], alts := [], laidByText := true, laidKinds := [.data, .data], laidTests := true, laidLooks := .later }
def VoiceMoreCardSaid : Prop := Claim7.holds Tryd.pinned (.plain (OpenSpec.ofChange voiceMoreSpec)) voiceMoreCard

/-- THE SECOND FORM's CARD OF 'decanilaw02.VoiceMore'. -/
def voiceMoreUptoCard : Claim7 := { stood := { row := voiceMoreUptoRow, standIns := [], harness := (true, "1fe02e092f358b022fb2d1289528f226cd0b3f899295aab512013b537510d860"), looks := false }, kinds := [], alts := [], laidByText := true, laidKinds := [.data, .data], laidTests := true, laidLooks := .later }
def VoiceMoreUptoCardSaid : Prop := Claim7.holds Tryd.pinned (.plain (OpenSpec.upto voiceMoreSpec)) voiceMoreUptoCard
end Rows
end Go.Proofs.YtchgkfnodcbpiaaDoor
