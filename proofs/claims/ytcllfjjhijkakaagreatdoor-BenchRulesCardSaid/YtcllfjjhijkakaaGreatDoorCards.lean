/-
  DERIVED. GIVEN WITH THE SEED: THE CARDS: each row of YtcllfjjhijkakaaGreatDoorRows.lean that lists a variable, with what it lists TIED to the program's text (the seventh form; the later family's looks); each row that meets fmt, with fmt's text TOLD by the authors' own Lean function (tested against real Go, not proved from fmt's source: count such statements apart). THE CARD IS WHAT COUNTS. Prove the row's statement (the work); the ties are given (YtcllfjjhijkakaaGreatDoorTie.lean); close each card by the builder's one call (the guide's Derived/Test/ToyasCard.lean, 'card_holds'). Laid BY PROGRAM, IN A SANDBOX (cutbox-door.mjs). By AI agents, Wed Nov 11 2026. No macro, syntax, notation, axiom, sorry.
-/
import Derived.Test.YtcllfjjhijkakaaGreatDoorRows
import GoSem.ClaimSeven
namespace Go.Proofs.YtcllfjjhijkakaaGreatDoor
namespace Rows

/-- THE TIED CARD OF 'decanilaw07.BenchRules'. -/
def benchRulesCard : Claim7 := { stood := { row := benchRulesRow, standIns := [], harness := (true, "cd05c07a6d70a7cc402466a128e913d823cf52e3f4435672076f076c61886f1d"), looks := false }, kinds := [], alts := [], laidByText := true, laidKinds := [.data, .data, .data], laidTests := true, laidLooks := .later }
def BenchRulesCardSaid : Prop := Claim7.holds Tryz.pinned (.plain (OpenSpec.ofChange benchRulesSpec)) benchRulesCard

/-- THE SECOND FORM's CARD OF 'decanilaw07.BenchRules'. -/
def benchRulesUptoCard : Claim7 := { stood := { row := benchRulesUptoRow, standIns := [], harness := (true, "cd05c07a6d70a7cc402466a128e913d823cf52e3f4435672076f076c61886f1d"), looks := false }, kinds := [], alts := [], laidByText := true, laidKinds := [.data, .data, .data], laidTests := true, laidLooks := .later }
def BenchRulesUptoCardSaid : Prop := Claim7.holds Tryz.pinned (.plain (OpenSpec.upto benchRulesSpec)) benchRulesUptoCard
end Rows
end Go.Proofs.YtcllfjjhijkakaaGreatDoor
