/-
  DERIVED. GIVEN WITH THE SEED: THE CARDS: each row of YtahphmhiehimiaaDoorRows.lean that lists a variable, with what it lists TIED to the program's text (the seventh form; the later family's looks); each row that meets fmt, with fmt's text TOLD by the authors' own Lean function (tested against real Go, not proved from fmt's source: count such statements apart). THE CARD IS WHAT COUNTS. Prove the row's statement (the work); the ties are given (YtahphmhiehimiaaDoorTie.lean); close each card by the builder's one call (the guide's Derived/Test/ToyasCard.lean, 'card_holds'). Laid BY PROGRAM, IN A SANDBOX (cutbox-door.mjs). By AI agents, Wed Nov 11 2026. No macro, syntax, notation, axiom, sorry.
-/
import Derived.Test.YtahphmhiehimiaaDoorRows
import GoSem.ClaimSeven
namespace Go.Proofs.YtahphmhiehimiaaDoor
namespace Rows

/-- THE TIED CARD OF 'decanilaw06.CandleKnown'. -/
def candleKnownCard : Claim7 := { stood := { row := candleKnownRow, standIns := [], harness := (true, "d5cdf74bf12bdda368122528ca442dccf9fa89fba6d9bcb9ba993cbccc440de4"), looks := false }, kinds := [], alts := [], laidByText := true, laidKinds := [.data], laidTests := true, laidLooks := .later }
def CandleKnownCardSaid : Prop := Claim7.holds Tryd.pinned (.plain (OpenSpec.ofChange candleKnownSpec)) candleKnownCard

/-- THE SECOND FORM's CARD OF 'decanilaw06.CandleKnown'. -/
def candleKnownUptoCard : Claim7 := { stood := { row := candleKnownUptoRow, standIns := [], harness := (true, "d5cdf74bf12bdda368122528ca442dccf9fa89fba6d9bcb9ba993cbccc440de4"), looks := false }, kinds := [], alts := [], laidByText := true, laidKinds := [.data], laidTests := true, laidLooks := .later }
def CandleKnownUptoCardSaid : Prop := Claim7.holds Tryd.pinned (.plain (OpenSpec.upto candleKnownSpec)) candleKnownUptoCard
end Rows
end Go.Proofs.YtahphmhiehimiaaDoor
