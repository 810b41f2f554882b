/-
  DERIVED. GIVEN WITH THE SEED: THE CARDS: each row of YteehcnicdkkimaaGreatDoorRows.lean that lists a variable, with what it lists TIED to the program's text (the seventh form; the later family's looks); each row that meets fmt, with fmt's text TOLD by the authors' own Lean function (tested against real Go, not proved from fmt's source: count such statements apart). THE CARD IS WHAT COUNTS. Prove the row's statement (the work); the ties are given (YteehcnicdkkimaaGreatDoorTie.lean); close each card by the builder's one call (the guide's Derived/Test/ToyasCard.lean, 'card_holds'). Laid BY PROGRAM, IN A SANDBOX (cutbox-door.mjs). By AI agents, Wed Nov 11 2026. No macro, syntax, notation, axiom, sorry.
-/
import Derived.Test.YteehcnicdkkimaaGreatDoorRows
import GoSem.ClaimSeven
namespace Go.Proofs.YteehcnicdkkimaaGreatDoor
namespace Rows

/-- THE TIED CARD OF 'decanilaw07.BenchRules'. -/
def benchRulesCard : Claim7 := { stood := { row := benchRulesRow, standIns := [], harness := (true, "1c3f286119c9506227c6ada73c78be59b4f7d58a38ac8a9f97078d928f09b776"), looks := false }, kinds := [], alts := [], laidByText := true, laidKinds := [.data, .data, .data], laidTests := true, laidLooks := .later }
def BenchRulesCardSaid : Prop := Claim7.holds Tryz.pinned (.plain (OpenSpec.ofChange benchRulesSpec)) benchRulesCard

/-- THE TIED CARD OF 'decanilaw07.BenchCan'. -/
def benchCanCard : Claim7 := { stood := { row := benchCanRow, standIns := [], harness := (true, "1c3f286119c9506227c6ada73c78be59b4f7d58a38ac8a9f97078d928f09b776"), looks := false }, kinds := [], alts := [], laidByText := true, laidKinds := [.data, .data, .data], laidTests := true, laidLooks := .later }
def BenchCanCardSaid : Prop := Claim7.holds Tryz.pinned (.plain (OpenSpec.ofChange benchCanSpec)) benchCanCard

/-- THE SECOND FORM's CARD OF 'decanilaw07.BenchRules'. -/
def benchRulesUptoCard : Claim7 := { stood := { row := benchRulesUptoRow, standIns := [], harness := (true, "1c3f286119c9506227c6ada73c78be59b4f7d58a38ac8a9f97078d928f09b776"), looks := false }, kinds := [], alts := [], laidByText := true, laidKinds := [.data, .data, .data], laidTests := true, laidLooks := .later }
def BenchRulesUptoCardSaid : Prop := Claim7.holds Tryz.pinned (.plain (OpenSpec.upto benchRulesSpec)) benchRulesUptoCard

/-- THE SECOND FORM's CARD OF 'decanilaw07.BenchCan'. -/
def benchCanUptoCard : Claim7 := { stood := { row := benchCanUptoRow, standIns := [], harness := (true, "1c3f286119c9506227c6ada73c78be59b4f7d58a38ac8a9f97078d928f09b776"), looks := false }, kinds := [], alts := [], laidByText := true, laidKinds := [.data, .data, .data], laidTests := true, laidLooks := .later }
def BenchCanUptoCardSaid : Prop := Claim7.holds Tryz.pinned (.plain (OpenSpec.upto benchCanSpec)) benchCanUptoCard
end Rows
end Go.Proofs.YteehcnicdkkimaaGreatDoor
