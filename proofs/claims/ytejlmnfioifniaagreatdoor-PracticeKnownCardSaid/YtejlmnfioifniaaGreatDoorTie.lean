/-
  DERIVED. GIVEN WITH THE SEED: THE PROGRAM's TIES (one call each: nine closed facts by the kernel) AND EACH ROW's TIE, after the 31st guide's Derived/Test/Toyas{Tie, Card}.lean. No idea stands in it: it is a product of the set-up. Laid BY PROGRAM, IN A SANDBOX (cutbox-door.mjs). By AI agents, Wed Nov 11 2026. No macro, syntax, notation, axiom, sorry.
-/
import Derived.Test.YtejlmnfioifniaaGreatDoorRows
import Derived.LaidByTextLater
import Derived.SevenTiedAt
import Derived.LaidSub
import Derived.LaidOnce
namespace Go.Proofs.YtejlmnfioifniaaGreatDoor
open Go
set_option maxRecDepth 100000
theorem seatTie1 : Tryz.prog.laidByTextLater [("decani/cold.nowhere", Rows.laid_decani_cold_nowhere), ("decani/cold.nobody", Rows.laid_decani_cold_nobody), ("decani/strain.nobody", Rows.laid_decani_strain_nobody), ("decani/strain.nothing", Rows.laid_decani_strain_nothing), ("decani/practice.noneHeld", Rows.laid_decani_practice_noneHeld)] [.data, .data, .data, .data, .wider] true :=
  Program.laidByTextLater_by_one 34 8 6 (by kernel_rfl) (by kernel_rfl) (by kernel_rfl) (by kernel_rfl) (by kernel_rfl) (by kernel_rfl) (fun _ _ => by kernel_rfl)
theorem noOwnUnsafe : Tryz.pinned.checked.prog.headLifts.contains "ownunsafe" = false := by kernel_rfl
theorem tie : Tryz.prog.laidByTextLater [("decani/cold.nowhere", Rows.laid_decani_cold_nowhere), ("decani/cold.nobody", Rows.laid_decani_cold_nobody), ("decani/strain.nobody", Rows.laid_decani_strain_nobody), ("decani/strain.nothing", Rows.laid_decani_strain_nothing), ("decani/practice.noneHeld", Rows.laid_decani_practice_noneHeld)] [.data, .data, .data, .data, .wider] true :=
  Program.laidByTextLater.sub seatTie1 ["decani/cold.nowhere", "decani/cold.nobody", "decani/strain.nobody", "decani/strain.nothing", "decani/practice.noneHeld"] (by kernel_rfl) (by kernel_rfl)
theorem practiceKnown_row_tie : Rows.practiceKnownRow.laidByTextAt .later Tryz.pinned [.data, .data, .data, .data, .wider] true :=
  OpenClaim.laidByTextAt_later rfl rfl tie noOwnUnsafe
theorem practiceKnownUpto_row_tie : Rows.practiceKnownUptoRow.laidByTextAt .later Tryz.pinned [.data, .data, .data, .data, .wider] true :=
  OpenClaim.laidByTextAt_later rfl rfl tie noOwnUnsafe
end Go.Proofs.YtejlmnfioifniaaGreatDoor
