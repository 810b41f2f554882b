/-
  DERIVED. GIVEN WITH THE SEED: THE PROGRAM's TIES (one call each: nine closed facts by the kernel) AND EACH ROW's TIE, after the 31st guide's Derived/Test/Toyas{Tie, Card}.lean. No idea stands in it: it is a product of the set-up. Laid BY PROGRAM, IN A SANDBOX (cutbox-door.mjs). By AI agents, Wed Nov 11 2026. No macro, syntax, notation, axiom, sorry.
-/
import Derived.Test.YtmjpnohpmfmdlaaGreatDoorRows
import Derived.LaidByTextLater
import Derived.SevenTiedAt
import Derived.LaidSub
import Derived.LaidOnce
namespace Go.Proofs.YtmjpnohpmfmdlaaGreatDoor
open Go
set_option maxRecDepth 100000
theorem seatTie1 : Tryz.prog.laidByTextLater [("decani/candle.nothing", Rows.laid_decani_candle_nothing), ("decani/cold.nowhere", Rows.laid_decani_cold_nowhere), ("decani/cold.nobody", Rows.laid_decani_cold_nobody), ("decani/office.noSeason", Rows.laid_decani_office_noSeason), ("decani/part.silence", Rows.laid_decani_part_silence), ("decani/strain.nothing", Rows.laid_decani_strain_nothing)] [.data, .data, .data, .data, .data, .data] true :=
  Program.laidByTextLater_by_one 39 8 6 (by kernel_rfl) (by kernel_rfl) (by kernel_rfl) (by kernel_rfl) (by kernel_rfl) (by kernel_rfl) (fun _ _ => by kernel_rfl)
theorem noOwnUnsafe : Tryz.pinned.checked.prog.headLifts.contains "ownunsafe" = false := by kernel_rfl
theorem tie : Tryz.prog.laidByTextLater [("decani/cold.nowhere", Rows.laid_decani_cold_nowhere), ("decani/cold.nobody", Rows.laid_decani_cold_nobody), ("decani/office.noSeason", Rows.laid_decani_office_noSeason), ("decani/part.silence", Rows.laid_decani_part_silence)] [.data, .data, .data, .data] true :=
  Program.laidByTextLater.sub seatTie1 ["decani/cold.nowhere", "decani/cold.nobody", "decani/office.noSeason", "decani/part.silence"] (by kernel_rfl) (by kernel_rfl)
theorem topPile_row_tie : Rows.topPileRow.laidByTextAt .later Tryz.pinned [.data, .data, .data, .data] true :=
  OpenClaim.laidByTextAt_later rfl rfl tie noOwnUnsafe
theorem topMeet_row_tie : Rows.topMeetRow.laidByTextAt .later Tryz.pinned [.data, .data, .data, .data] true :=
  OpenClaim.laidByTextAt_later rfl rfl tie noOwnUnsafe
theorem tie2 : Tryz.prog.laidByTextLater [("decani/candle.nothing", Rows.laid_decani_candle_nothing), ("decani/cold.nowhere", Rows.laid_decani_cold_nowhere), ("decani/cold.nobody", Rows.laid_decani_cold_nobody), ("decani/strain.nothing", Rows.laid_decani_strain_nothing)] [.data, .data, .data, .data] true :=
  Program.laidByTextLater.sub seatTie1 ["decani/candle.nothing", "decani/cold.nowhere", "decani/cold.nobody", "decani/strain.nothing"] (by kernel_rfl) (by kernel_rfl)
theorem topBeds_row_tie : Rows.topBedsRow.laidByTextAt .later Tryz.pinned [.data, .data, .data, .data] true :=
  OpenClaim.laidByTextAt_later rfl rfl tie2 noOwnUnsafe
theorem topPileUpto_row_tie : Rows.topPileUptoRow.laidByTextAt .later Tryz.pinned [.data, .data, .data, .data] true :=
  OpenClaim.laidByTextAt_later rfl rfl tie noOwnUnsafe
theorem topMeetUpto_row_tie : Rows.topMeetUptoRow.laidByTextAt .later Tryz.pinned [.data, .data, .data, .data] true :=
  OpenClaim.laidByTextAt_later rfl rfl tie noOwnUnsafe
theorem topBedsUpto_row_tie : Rows.topBedsUptoRow.laidByTextAt .later Tryz.pinned [.data, .data, .data, .data] true :=
  OpenClaim.laidByTextAt_later rfl rfl tie2 noOwnUnsafe
end Go.Proofs.YtmjpnohpmfmdlaaGreatDoor
