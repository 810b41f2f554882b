/-
  DERIVED. GIVEN WITH THE SEED: THE CARDS: each row of YtbhgicggpkibeaaDoorRows.lean that lists a variable, with what it lists TIED to the program's text (the seventh form; the later family's looks); each row that meets fmt, with fmt's text TOLD by the authors' own Lean function (tested against real Go, not proved from fmt's source: count such statements apart). THE CARD IS WHAT COUNTS. Prove the row's statement (the work); the ties are given (YtbhgicggpkibeaaDoorTie.lean); close each card by the builder's one call (the guide's Derived/Test/ToyasCard.lean, 'card_holds'). Laid BY PROGRAM, IN A SANDBOX (cutbox-door.mjs). By AI agents, Wed Nov 11 2026. No macro, syntax, notation, axiom, sorry.
-/
import Derived.Test.YtbhgicggpkibeaaDoorRows
import GoSem.ClaimSeven
namespace Go.Proofs.YtbhgicggpkibeaaDoor
namespace Rows

/-- THE TIED CARD OF 'decanilaw02.VoiceMust'. -/
def voiceMustCard : Claim7 := { stood := { row := voiceMustRow, standIns := [], harness := (true, "a2d311d538934d1591382793f8fa2b193fe9856d2bab7a2823e0288f4670e34a"), looks := false }, kinds := [], alts := [], laidByText := true, laidKinds := [.data, .data], laidTests := true, laidLooks := .later }
def VoiceMustCardSaid : Prop := Claim7.holds Tryd.pinned (.plain (OpenSpec.ofChange voiceMustSpec)) voiceMustCard

/-- THE TIED CARD OF 'decanilaw03.ColdKnown'. -/
def coldKnownCard : Claim7 := { stood := { row := coldKnownRow, standIns := [], harness := (true, "a2d311d538934d1591382793f8fa2b193fe9856d2bab7a2823e0288f4670e34a"), looks := false }, kinds := [], alts := [], laidByText := true, laidKinds := [.data, .data], laidTests := true, laidLooks := .later }
def ColdKnownCardSaid : Prop := Claim7.holds Tryd.pinned (.plain (OpenSpec.ofChange coldKnownSpec)) coldKnownCard

/-- THE SECOND FORM's CARD OF 'decanilaw02.VoiceMust'. -/
def voiceMustUptoCard : Claim7 := { stood := { row := voiceMustUptoRow, standIns := [], harness := (true, "a2d311d538934d1591382793f8fa2b193fe9856d2bab7a2823e0288f4670e34a"), looks := false }, kinds := [], alts := [], laidByText := true, laidKinds := [.data, .data], laidTests := true, laidLooks := .later }
def VoiceMustUptoCardSaid : Prop := Claim7.holds Tryd.pinned (.plain (OpenSpec.upto voiceMustSpec)) voiceMustUptoCard

/-- THE SECOND FORM's CARD OF 'decanilaw03.ColdKnown'. -/
def coldKnownUptoCard : Claim7 := { stood := { row := coldKnownUptoRow, standIns := [], harness := (true, "a2d311d538934d1591382793f8fa2b193fe9856d2bab7a2823e0288f4670e34a"), looks := false }, kinds := [], alts := [], laidByText := true, laidKinds := [.data, .data], laidTests := true, laidLooks := .later }
def ColdKnownUptoCardSaid : Prop := Claim7.holds Tryd.pinned (.plain (OpenSpec.upto coldKnownSpec)) coldKnownUptoCard
end Rows
end Go.Proofs.YtbhgicggpkibeaaDoor
