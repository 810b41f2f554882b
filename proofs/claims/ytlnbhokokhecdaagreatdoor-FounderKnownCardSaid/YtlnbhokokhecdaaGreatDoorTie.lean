/-
  DERIVED. GIVEN WITH THE SEED: THE PROGRAM's TIES (one call each: nine closed facts by the kernel) AND EACH ROW's TIE, after the 31st guide's Derived/Test/Toyas{Tie, Card}.lean. No idea stands in it: it is a product of the set-up. Laid BY PROGRAM, IN A SANDBOX (cutbox-door.mjs). By AI agents, Wed Nov 11 2026. No macro, syntax, notation, axiom, sorry.
-/
import Derived.Test.YtlnbhokokhecdaaGreatDoorRows
import Derived.LaidByTextLater
import Derived.SevenTiedAt
import Derived.LaidSub
import Derived.LaidOnce
namespace Go.Proofs.YtlnbhokokhecdaaGreatDoor
open Go
set_option maxRecDepth 100000
theorem seatTie1 : Tryz.prog.laidByTextLater [("decani/office.noSeason", Rows.laid_decani_office_noSeason), ("decani/founder.noServices", Rows.laid_decani_founder_noServices), ("decani/founder.noService", Rows.laid_decani_founder_noService)] [.data, .data, .data] true :=
  Program.laidByTextLater_by_one 24 8 5 (by kernel_rfl) (by kernel_rfl) (by kernel_rfl) (by kernel_rfl) (by kernel_rfl) (by kernel_rfl) (fun _ _ => by kernel_rfl)
theorem noOwnUnsafe : Tryz.pinned.checked.prog.headLifts.contains "ownunsafe" = false := by kernel_rfl
theorem tie : Tryz.prog.laidByTextLater [("decani/office.noSeason", Rows.laid_decani_office_noSeason), ("decani/founder.noServices", Rows.laid_decani_founder_noServices), ("decani/founder.noService", Rows.laid_decani_founder_noService)] [.data, .data, .data] true :=
  Program.laidByTextLater.sub seatTie1 ["decani/office.noSeason", "decani/founder.noServices", "decani/founder.noService"] (by kernel_rfl) (by kernel_rfl)
theorem founderKnown_row_tie : Rows.founderKnownRow.laidByTextAt .later Tryz.pinned [.data, .data, .data] true :=
  OpenClaim.laidByTextAt_later rfl rfl tie noOwnUnsafe
theorem founderKnownUpto_row_tie : Rows.founderKnownUptoRow.laidByTextAt .later Tryz.pinned [.data, .data, .data] true :=
  OpenClaim.laidByTextAt_later rfl rfl tie noOwnUnsafe
end Go.Proofs.YtlnbhokokhecdaaGreatDoor
