/- Known calls, part 14: what single calls hand back, at small heaps, by the kernel's own run of the evaluator. No conditions. -/
import Derived.Test.YtmjpnohpmfmdlaaGreatDoorPAT
set_option linter.all false
namespace Go.Proofs.YtmjpnohpmfmdlaaGreatDoor
open Go.Ai
set_option maxRecDepth 1000000
-- decani/office.Chief, 9117 steps
noncomputable def pb14 : Ent :=
  ⟨14, [.agg ⟨[iP 2, iP 0, .slice (some ⟨6, 0, none⟩) 3 18446744073709551616, .slice (some ⟨7, 0, none⟩) 1 1, .bool false, .slice none 0 0, .bool false, .slice none 0 0]⟩, iP 0, iP 0], 8,
   gB ++ [(6, .cells true 4 [iP 0, iP 0, iP 1, iP 0, iP 0, iP 1, iP 0, iP 0, iP 1]),
    (7, .cells true 0 [iP 1, iP 1, iP 1])],
   [.cells true 2 [iP 0]],
   .tuple ⟨[.slice (some ⟨8, 0, none⟩) 1 18446744073709551616, iP 0]⟩⟩
theorem pb14_ok : pb14.okS EE.G = true := by kernel_rfl
theorem pb14_run : evT EE paT 1000000000 (.call pb14.f pb14.args) pb14.heap (keptK pb14) = some (.bool true) := by kernel_rfl
theorem pb14_h : pb14.holds EE := ent_run envOk paT_holds _ _ pb14_ok pb14_run
-- decani/office.Falls, 11673 steps
noncomputable def pb35 : Ent :=
  ⟨9, [.agg ⟨[iP 2, iP 0, .slice (some ⟨6, 0, none⟩) 4 18446744073709551616, .slice (some ⟨7, 0, none⟩) 1 1, .bool false, .slice none 0 0, .bool false, .slice none 0 0]⟩, iP 0, iP 3], 8,
   gB ++ [(6, .cells true 4 [iP 0, iP 0, iP 1, iP 0, iP 0, iP 1, iP 0, iP 0, iP 1, iP 0, iP 0, iP 1]),
    (7, .cells true 0 [iP 1, iP 1, iP 1])],
   [],
   .tuple ⟨[.agg ⟨[iP 0, iP 0]⟩, iP 4]⟩⟩
theorem pb35_ok : pb35.okS EE.G = true := by kernel_rfl
theorem pb35_run : evT EE paT 1000000000 (.call pb35.f pb35.args) pb35.heap (keptK pb35) = some (.bool true) := by kernel_rfl
theorem pb35_h : pb35.holds EE := ent_run envOk paT_holds _ _ pb35_ok pb35_run
-- decani/office.Kept, 8033 steps
noncomputable def pb56 : Ent :=
  ⟨11, [.agg ⟨[iP 3, iP 0, .slice (some ⟨6, 0, none⟩) 2 18446744073709551616, .slice (some ⟨7, 0, none⟩) 1 1, .bool false, .slice none 0 0, .bool false, .slice none 0 0]⟩, iP 0, iP 1], 8,
   gB ++ [(6, .cells true 4 [iP 1, iP 1, iP 1, iP 1, iP 1, iP 1]),
    (7, .cells true 0 [iP 1, iP 1, iP 1])],
   [],
   .tuple ⟨[iP 2, iP 0]⟩⟩
theorem pb56_ok : pb56.okS EE.G = true := by kernel_rfl
theorem pb56_run : evT EE paT 1000000000 (.call pb56.f pb56.args) pb56.heap (keptK pb56) = some (.bool true) := by kernel_rfl
theorem pb56_h : pb56.holds EE := ent_run envOk paT_holds _ _ pb56_ok pb56_run
-- decani/office.Chief, 10737 steps
noncomputable def pb77 : Ent :=
  ⟨14, [.agg ⟨[iP 3, iP 0, .slice (some ⟨6, 0, none⟩) 3 18446744073709551616, .slice (some ⟨7, 0, none⟩) 1 1, .bool false, .slice none 0 0, .bool false, .slice none 0 0]⟩, iP 0, iP 2], 8,
   gB ++ [(6, .cells true 4 [iP 1, iP 1, iP 1, iP 1, iP 1, iP 1, iP 1, iP 1, iP 1]),
    (7, .cells true 0 [iP 1, iP 1, iP 1])],
   [.cells true 2 [iP 1]],
   .tuple ⟨[.slice (some ⟨8, 0, none⟩) 1 18446744073709551616, iP 0]⟩⟩
theorem pb77_ok : pb77.okS EE.G = true := by kernel_rfl
theorem pb77_run : evT EE paT 1000000000 (.call pb77.f pb77.args) pb77.heap (keptK pb77) = some (.bool true) := by kernel_rfl
theorem pb77_h : pb77.holds EE := ent_run envOk paT_holds _ _ pb77_ok pb77_run
-- decani/office.Falls, 13552 steps
noncomputable def pb98 : Ent :=
  ⟨9, [.agg ⟨[iP 3, iP 0, .slice (some ⟨6, 0, none⟩) 4 18446744073709551616, .slice (some ⟨7, 0, none⟩) 1 1, .bool false, .slice none 0 0, .bool false, .slice none 0 0]⟩, iP 0, iP 0], 8,
   gB ++ [(6, .cells true 4 [iP 1, iP 1, iP 1, iP 1, iP 1, iP 1, iP 1, iP 1, iP 1, iP 1, iP 1, iP 1]),
    (7, .cells true 0 [iP 1, iP 1, iP 1])],
   [],
   .tuple ⟨[.agg ⟨[iP 1, iP 1]⟩, iP 0]⟩⟩
theorem pb98_ok : pb98.okS EE.G = true := by kernel_rfl
theorem pb98_run : evT EE paT 1000000000 (.call pb98.f pb98.args) pb98.heap (keptK pb98) = some (.bool true) := by kernel_rfl
theorem pb98_h : pb98.holds EE := ent_run envOk paT_holds _ _ pb98_ok pb98_run
-- decani/office.Falls, 7115 steps
noncomputable def pb119 : Ent :=
  ⟨9, [.agg ⟨[iP 4, iP 0, .slice (some ⟨6, 0, none⟩) 1 18446744073709551616, .slice (some ⟨7, 0, none⟩) 1 1, .bool false, .slice none 0 0, .bool false, .slice none 0 0]⟩, iP 0, iP 0], 8,
   gB ++ [(6, .cells true 4 [iP 2, iP 2, iP 1]),
    (7, .cells true 0 [iP 1, iP 1, iP 1])],
   [],
   .tuple ⟨[.agg ⟨[iP 2, iP 2]⟩, iP 0]⟩⟩
theorem pb119_ok : pb119.okS EE.G = true := by kernel_rfl
theorem pb119_run : evT EE paT 1000000000 (.call pb119.f pb119.args) pb119.heap (keptK pb119) = some (.bool true) := by kernel_rfl
theorem pb119_h : pb119.holds EE := ent_run envOk paT_holds _ _ pb119_ok pb119_run
-- decani/office.Chief, 9427 steps
noncomputable def pb140 : Ent :=
  ⟨14, [.agg ⟨[iP 4, iP 0, .slice (some ⟨6, 0, none⟩) 2 18446744073709551616, .slice (some ⟨7, 0, none⟩) 1 1, .bool false, .slice none 0 0, .bool false, .slice none 0 0]⟩, iP 0, iP 3], 8,
   gB ++ [(6, .cells true 4 [iP 2, iP 2, iP 1, iP 2, iP 2, iP 1]),
    (7, .cells true 0 [iP 1, iP 1, iP 1])],
   [.cells true 2 [iP 1]],
   .tuple ⟨[.slice (some ⟨8, 0, none⟩) 1 18446744073709551616, iP 0]⟩⟩
theorem pb140_ok : pb140.okS EE.G = true := by kernel_rfl
theorem pb140_run : evT EE paT 1000000000 (.call pb140.f pb140.args) pb140.heap (keptK pb140) = some (.bool true) := by kernel_rfl
theorem pb140_h : pb140.holds EE := ent_run envOk paT_holds _ _ pb140_ok pb140_run
-- decani/office.Falls, 12620 steps
noncomputable def pb161 : Ent :=
  ⟨9, [.agg ⟨[iP 4, iP 0, .slice (some ⟨6, 0, none⟩) 3 18446744073709551616, .slice (some ⟨7, 0, none⟩) 1 1, .bool false, .slice none 0 0, .bool false, .slice none 0 0]⟩, iP 0, iP 2], 8,
   gB ++ [(6, .cells true 4 [iP 1, iP 1, iP 1, iP 1, iP 1, iP 1, iP 1, iP 1, iP 1]),
    (7, .cells true 0 [iP 1, iP 1, iP 1])],
   [],
   .tuple ⟨[.agg ⟨[iP 3, iP 3]⟩, iP 0]⟩⟩
theorem pb161_ok : pb161.okS EE.G = true := by kernel_rfl
theorem pb161_run : evT EE paT 1000000000 (.call pb161.f pb161.args) pb161.heap (keptK pb161) = some (.bool true) := by kernel_rfl
theorem pb161_h : pb161.holds EE := ent_run envOk paT_holds _ _ pb161_ok pb161_run
-- decani/office.Falls, 16118 steps
noncomputable def pb182 : Ent :=
  ⟨9, [.agg ⟨[iP 4, iP 0, .slice (some ⟨6, 0, none⟩) 4 18446744073709551616, .slice (some ⟨7, 0, none⟩) 1 1, .bool false, .slice none 0 0, .bool false, .slice none 0 0]⟩, iP 0, iP 1], 8,
   gB ++ [(6, .cells true 4 [iP 0, iP 0, iP 1, iP 0, iP 0, iP 1, iP 0, iP 0, iP 1, iP 0, iP 0, iP 1]),
    (7, .cells true 0 [iP 1, iP 1, iP 1])],
   [],
   .tuple ⟨[.agg ⟨[iP 1, iP 1]⟩, iP 0]⟩⟩
theorem pb182_ok : pb182.okS EE.G = true := by kernel_rfl
theorem pb182_run : evT EE paT 1000000000 (.call pb182.f pb182.args) pb182.heap (keptK pb182) = some (.bool true) := by kernel_rfl
theorem pb182_h : pb182.holds EE := ent_run envOk paT_holds _ _ pb182_ok pb182_run
-- decani/office.Kept, 15325 steps
noncomputable def pb203 : Ent :=
  ⟨11, [.agg ⟨[iP 4, iP 0, .slice (some ⟨6, 0, none⟩) 4 18446744073709551616, .slice (some ⟨7, 0, none⟩) 1 1, .bool false, .slice none 0 0, .bool false, .slice none 0 0]⟩, iP 0, iP 0], 8,
   gB ++ [(6, .cells true 4 [iP 2, iP 2, iP 1, iP 2, iP 2, iP 1, iP 2, iP 2, iP 1, iP 2, iP 2, iP 1]),
    (7, .cells true 0 [iP 1, iP 1, iP 1])],
   [],
   .tuple ⟨[iP 2, iP 0]⟩⟩
theorem pb203_ok : pb203.okS EE.G = true := by kernel_rfl
theorem pb203_run : evT EE paT 1000000000 (.call pb203.f pb203.args) pb203.heap (keptK pb203) = some (.bool true) := by kernel_rfl
theorem pb203_h : pb203.holds EE := ent_run envOk paT_holds _ _ pb203_ok pb203_run
-- decani/office.Falls, 8308 steps
noncomputable def pb224 : Ent :=
  ⟨9, [.agg ⟨[iP 5, iP 0, .slice (some ⟨6, 0, none⟩) 1 18446744073709551616, .slice (some ⟨7, 0, none⟩) 1 1, .bool false, .slice none 0 0, .bool false, .slice none 0 0]⟩, iP 0, iP 0], 8,
   gB ++ [(6, .cells true 4 [iP 1, iP 1, iP 1]),
    (7, .cells true 0 [iP 1, iP 1, iP 1])],
   [],
   .tuple ⟨[.agg ⟨[iP 1, iP 1]⟩, iP 0]⟩⟩
theorem pb224_ok : pb224.okS EE.G = true := by kernel_rfl
theorem pb224_run : evT EE paT 1000000000 (.call pb224.f pb224.args) pb224.heap (keptK pb224) = some (.bool true) := by kernel_rfl
theorem pb224_h : pb224.holds EE := ent_run envOk paT_holds _ _ pb224_ok pb224_run
-- decani/office.Falls, 10983 steps
noncomputable def pb245 : Ent :=
  ⟨9, [.agg ⟨[iP 5, iP 0, .slice (some ⟨6, 0, none⟩) 2 18446744073709551616, .slice (some ⟨7, 0, none⟩) 1 1, .bool false, .slice none 0 0, .bool false, .slice none 0 0]⟩, iP 0, iP 1], 8,
   gB ++ [(6, .cells true 4 [iP 1, iP 1, iP 1, iP 1, iP 1, iP 1]),
    (7, .cells true 0 [iP 1, iP 1, iP 1])],
   [],
   .tuple ⟨[.agg ⟨[iP 2, iP 2]⟩, iP 0]⟩⟩
theorem pb245_ok : pb245.okS EE.G = true := by kernel_rfl
theorem pb245_run : evT EE paT 1000000000 (.call pb245.f pb245.args) pb245.heap (keptK pb245) = some (.bool true) := by kernel_rfl
theorem pb245_h : pb245.holds EE := ent_run envOk paT_holds _ _ pb245_ok pb245_run
-- decani/office.Kept, 14001 steps
noncomputable def pb266 : Ent :=
  ⟨11, [.agg ⟨[iP 5, iP 0, .slice (some ⟨6, 0, none⟩) 3 18446744073709551616, .slice (some ⟨7, 0, none⟩) 1 1, .bool false, .slice none 0 0, .bool false, .slice none 0 0]⟩, iP 0, iP 0], 8,
   gB ++ [(6, .cells true 4 [iP 0, iP 0, iP 1, iP 0, iP 0, iP 1, iP 0, iP 0, iP 1]),
    (7, .cells true 0 [iP 1, iP 1, iP 1])],
   [],
   .tuple ⟨[iP 2, iP 0]⟩⟩
theorem pb266_ok : pb266.okS EE.G = true := by kernel_rfl
theorem pb266_run : evT EE paT 1000000000 (.call pb266.f pb266.args) pb266.heap (keptK pb266) = some (.bool true) := by kernel_rfl
theorem pb266_h : pb266.holds EE := ent_run envOk paT_holds _ _ pb266_ok pb266_run
-- decani/office.Falls, 14291 steps
noncomputable def pb287 : Ent :=
  ⟨9, [.agg ⟨[iP 5, iP 0, .slice (some ⟨6, 0, none⟩) 3 18446744073709551616, .slice (some ⟨7, 0, none⟩) 1 1, .bool false, .slice none 0 0, .bool false, .slice none 0 0]⟩, iP 0, iP 2], 8,
   gB ++ [(6, .cells true 4 [iP 2, iP 2, iP 1, iP 2, iP 2, iP 1, iP 2, iP 2, iP 1]),
    (7, .cells true 0 [iP 1, iP 1, iP 1])],
   [],
   .tuple ⟨[.agg ⟨[iP 4, iP 4]⟩, iP 0]⟩⟩
theorem pb287_ok : pb287.okS EE.G = true := by kernel_rfl
theorem pb287_run : evT EE paT 1000000000 (.call pb287.f pb287.args) pb287.heap (keptK pb287) = some (.bool true) := by kernel_rfl
theorem pb287_h : pb287.holds EE := ent_run envOk paT_holds _ _ pb287_ok pb287_run
-- decani/office.Falls, 17926 steps
noncomputable def pb308 : Ent :=
  ⟨9, [.agg ⟨[iP 5, iP 0, .slice (some ⟨6, 0, none⟩) 4 18446744073709551616, .slice (some ⟨7, 0, none⟩) 1 1, .bool false, .slice none 0 0, .bool false, .slice none 0 0]⟩, iP 0, iP 1], 8,
   gB ++ [(6, .cells true 4 [iP 0, iP 0, iP 1, iP 0, iP 0, iP 1, iP 0, iP 0, iP 1, iP 0, iP 0, iP 1]),
    (7, .cells true 0 [iP 1, iP 1, iP 1])],
   [],
   .tuple ⟨[.agg ⟨[iP 1, iP 1]⟩, iP 0]⟩⟩
theorem pb308_ok : pb308.okS EE.G = true := by kernel_rfl
theorem pb308_run : evT EE paT 1000000000 (.call pb308.f pb308.args) pb308.heap (keptK pb308) = some (.bool true) := by kernel_rfl
theorem pb308_h : pb308.holds EE := ent_run envOk paT_holds _ _ pb308_ok pb308_run
-- decani/office.Falls, 17889 steps
noncomputable def pb329 : Ent :=
  ⟨9, [.agg ⟨[iP 5, iP 0, .slice (some ⟨6, 0, none⟩) 4 18446744073709551616, .slice (some ⟨7, 0, none⟩) 1 1, .bool false, .slice none 0 0, .bool false, .slice none 0 0]⟩, iP 0, iP 0], 8,
   gB ++ [(6, .cells true 4 [iP 2, iP 2, iP 1, iP 2, iP 2, iP 1, iP 2, iP 2, iP 1, iP 2, iP 2, iP 1]),
    (7, .cells true 0 [iP 1, iP 1, iP 1])],
   [],
   .tuple ⟨[.agg ⟨[iP 2, iP 2]⟩, iP 0]⟩⟩
theorem pb329_ok : pb329.okS EE.G = true := by kernel_rfl
theorem pb329_run : evT EE paT 1000000000 (.call pb329.f pb329.args) pb329.heap (keptK pb329) = some (.bool true) := by kernel_rfl
theorem pb329_h : pb329.holds EE := ent_run envOk paT_holds _ _ pb329_ok pb329_run
-- decani/office.Falls, 16069 steps
noncomputable def pb350 : Ent :=
  ⟨9, [.agg ⟨[iP 5, iP 0, .slice (some ⟨6, 0, none⟩) 4 18446744073709551616, .slice (some ⟨7, 0, none⟩) 1 1, .bool false, .slice none 0 0, .bool false, .slice none 0 0]⟩, iP 0, iP 0], 8,
   gB ++ [(6, .cells true 4 [iP 4, iP 4, iP 1, iP 4, iP 4, iP 1, iP 4, iP 4, iP 1, iP 4, iP 4, iP 1]),
    (7, .cells true 0 [iP 1, iP 1, iP 1])],
   [],
   .tuple ⟨[.agg ⟨[iP 4, iP 4]⟩, iP 0]⟩⟩
theorem pb350_ok : pb350.okS EE.G = true := by kernel_rfl
theorem pb350_run : evT EE paT 1000000000 (.call pb350.f pb350.args) pb350.heap (keptK pb350) = some (.bool true) := by kernel_rfl
theorem pb350_h : pb350.holds EE := ent_run envOk paT_holds _ _ pb350_ok pb350_run
-- decani/office.Falls, 9705 steps
noncomputable def pb371 : Ent :=
  ⟨9, [.agg ⟨[iP 6, iP 0, .slice (some ⟨6, 0, none⟩) 1 18446744073709551616, .slice (some ⟨7, 0, none⟩) 1 1, .bool false, .slice none 0 0, .bool false, .slice none 0 0]⟩, iP 0, iP 0], 8,
   gB ++ [(6, .cells true 4 [iP 4, iP 4, iP 1]),
    (7, .cells true 0 [iP 1, iP 1, iP 1])],
   [],
   .tuple ⟨[.agg ⟨[iP 4, iP 4]⟩, iP 0]⟩⟩
theorem pb371_ok : pb371.okS EE.G = true := by kernel_rfl
theorem pb371_run : evT EE paT 1000000000 (.call pb371.f pb371.args) pb371.heap (keptK pb371) = some (.bool true) := by kernel_rfl
theorem pb371_h : pb371.holds EE := ent_run envOk paT_holds _ _ pb371_ok pb371_run
-- decani/office.Falls, 12466 steps
noncomputable def pb392 : Ent :=
  ⟨9, [.agg ⟨[iP 6, iP 0, .slice (some ⟨6, 0, none⟩) 2 18446744073709551616, .slice (some ⟨7, 0, none⟩) 1 1, .bool false, .slice none 0 0, .bool false, .slice none 0 0]⟩, iP 0, iP 1], 8,
   gB ++ [(6, .cells true 4 [iP 2, iP 2, iP 1, iP 2, iP 2, iP 1]),
    (7, .cells true 0 [iP 1, iP 1, iP 1])],
   [],
   .tuple ⟨[.agg ⟨[iP 3, iP 3]⟩, iP 0]⟩⟩
theorem pb392_ok : pb392.okS EE.G = true := by kernel_rfl
theorem pb392_run : evT EE paT 1000000000 (.call pb392.f pb392.args) pb392.heap (keptK pb392) = some (.bool true) := by kernel_rfl
theorem pb392_h : pb392.holds EE := ent_run envOk paT_holds _ _ pb392_ok pb392_run
-- decani/office.Kept, 15621 steps
noncomputable def pb413 : Ent :=
  ⟨11, [.agg ⟨[iP 6, iP 0, .slice (some ⟨6, 0, none⟩) 3 18446744073709551616, .slice (some ⟨7, 0, none⟩) 1 1, .bool false, .slice none 0 0, .bool false, .slice none 0 0]⟩, iP 0, iP 0], 8,
   gB ++ [(6, .cells true 4 [iP 0, iP 0, iP 1, iP 0, iP 0, iP 1, iP 0, iP 0, iP 1]),
    (7, .cells true 0 [iP 1, iP 1, iP 1])],
   [],
   .tuple ⟨[iP 2, iP 0]⟩⟩
theorem pb413_ok : pb413.okS EE.G = true := by kernel_rfl
theorem pb413_run : evT EE paT 1000000000 (.call pb413.f pb413.args) pb413.heap (keptK pb413) = some (.bool true) := by kernel_rfl
theorem pb413_h : pb413.holds EE := ent_run envOk paT_holds _ _ pb413_ok pb413_run
-- decani/office.Kept, 15774 steps
noncomputable def pb434 : Ent :=
  ⟨11, [.agg ⟨[iP 6, iP 0, .slice (some ⟨6, 0, none⟩) 3 18446744073709551616, .slice (some ⟨7, 0, none⟩) 1 1, .bool false, .slice none 0 0, .bool false, .slice none 0 0]⟩, iP 0, iP 1], 8,
   gB ++ [(6, .cells true 4 [iP 2, iP 2, iP 1, iP 2, iP 2, iP 1, iP 2, iP 2, iP 1]),
    (7, .cells true 0 [iP 1, iP 1, iP 1])],
   [],
   .tuple ⟨[iP 2, iP 0]⟩⟩
theorem pb434_ok : pb434.okS EE.G = true := by kernel_rfl
theorem pb434_run : evT EE paT 1000000000 (.call pb434.f pb434.args) pb434.heap (keptK pb434) = some (.bool true) := by kernel_rfl
theorem pb434_h : pb434.holds EE := ent_run envOk paT_holds _ _ pb434_ok pb434_run
-- decani/office.Kept, 15794 steps
noncomputable def pb455 : Ent :=
  ⟨11, [.agg ⟨[iP 6, iP 0, .slice (some ⟨6, 0, none⟩) 3 18446744073709551616, .slice (some ⟨7, 0, none⟩) 1 1, .bool false, .slice none 0 0, .bool false, .slice none 0 0]⟩, iP 0, iP 2], 8,
   gB ++ [(6, .cells true 4 [iP 4, iP 4, iP 1, iP 4, iP 4, iP 1, iP 4, iP 4, iP 1]),
    (7, .cells true 0 [iP 1, iP 1, iP 1])],
   [],
   .tuple ⟨[iP 0, iP 0]⟩⟩
theorem pb455_ok : pb455.okS EE.G = true := by kernel_rfl
theorem pb455_run : evT EE paT 1000000000 (.call pb455.f pb455.args) pb455.heap (keptK pb455) = some (.bool true) := by kernel_rfl
theorem pb455_h : pb455.holds EE := ent_run envOk paT_holds _ _ pb455_ok pb455_run
-- decani/office.Kept, 19648 steps
noncomputable def pb476 : Ent :=
  ⟨11, [.agg ⟨[iP 6, iP 0, .slice (some ⟨6, 0, none⟩) 4 18446744073709551616, .slice (some ⟨7, 0, none⟩) 1 1, .bool false, .slice none 0 0, .bool false, .slice none 0 0]⟩, iP 0, iP 0], 8,
   gB ++ [(6, .cells true 4 [iP 1, iP 1, iP 1, iP 1, iP 1, iP 1, iP 1, iP 1, iP 1, iP 1, iP 1, iP 1]),
    (7, .cells true 0 [iP 1, iP 1, iP 1])],
   [],
   .tuple ⟨[iP 2, iP 0]⟩⟩
theorem pb476_ok : pb476.okS EE.G = true := by kernel_rfl
theorem pb476_run : evT EE paT 1000000000 (.call pb476.f pb476.args) pb476.heap (keptK pb476) = some (.bool true) := by kernel_rfl
theorem pb476_h : pb476.holds EE := ent_run envOk paT_holds _ _ pb476_ok pb476_run
-- decani/office.Kept, 19852 steps
noncomputable def pb497 : Ent :=
  ⟨11, [.agg ⟨[iP 6, iP 0, .slice (some ⟨6, 0, none⟩) 4 18446744073709551616, .slice (some ⟨7, 0, none⟩) 1 1, .bool false, .slice none 0 0, .bool false, .slice none 0 0]⟩, iP 0, iP 3], 8,
   gB ++ [(6, .cells true 4 [iP 2, iP 2, iP 1, iP 2, iP 2, iP 1, iP 2, iP 2, iP 1, iP 2, iP 2, iP 1]),
    (7, .cells true 0 [iP 1, iP 1, iP 1])],
   [],
   .tuple ⟨[iP 2, iP 0]⟩⟩
theorem pb497_ok : pb497.okS EE.G = true := by kernel_rfl
theorem pb497_run : evT EE paT 1000000000 (.call pb497.f pb497.args) pb497.heap (keptK pb497) = some (.bool true) := by kernel_rfl
theorem pb497_h : pb497.holds EE := ent_run envOk paT_holds _ _ pb497_ok pb497_run
-- decani/office.Falls, 19109 steps
noncomputable def pb518 : Ent :=
  ⟨9, [.agg ⟨[iP 6, iP 0, .slice (some ⟨6, 0, none⟩) 4 18446744073709551616, .slice (some ⟨7, 0, none⟩) 1 1, .bool false, .slice none 0 0, .bool false, .slice none 0 0]⟩, iP 0, iP 3], 8,
   gB ++ [(6, .cells true 4 [iP 4, iP 4, iP 1, iP 4, iP 4, iP 1, iP 4, iP 4, iP 1, iP 4, iP 4, iP 1]),
    (7, .cells true 0 [iP 1, iP 1, iP 1])],
   [],
   .tuple ⟨[.agg ⟨[iP 0, iP 0]⟩, iP 4]⟩⟩
theorem pb518_ok : pb518.okS EE.G = true := by kernel_rfl
theorem pb518_run : evT EE paT 1000000000 (.call pb518.f pb518.args) pb518.heap (keptK pb518) = some (.bool true) := by kernel_rfl
theorem pb518_h : pb518.holds EE := ent_run envOk paT_holds _ _ pb518_ok pb518_run
-- decani/office.Kept, 6769 steps
noncomputable def pb539 : Ent :=
  ⟨11, [.agg ⟨[iP 1, iP 0, .slice (some ⟨6, 0, none⟩) 3 18446744073709551616, .slice (some ⟨7, 0, none⟩) 1 1, .bool false, .slice none 0 0, .bool false, .slice none 0 0]⟩, iP 0, iP 1], 8,
   gB ++ [(6, .cells true 4 [iP 0, iP 0, iP 1, iP 0, iP 0, iP 1, iP 0, iP 0, iP 1]),
    (7, .cells true 0 [iP 1, iP 1, iP 1])],
   [],
   .tuple ⟨[iP 0, iP 0]⟩⟩
theorem pb539_ok : pb539.okS EE.G = true := by kernel_rfl
theorem pb539_run : evT EE paT 1000000000 (.call pb539.f pb539.args) pb539.heap (keptK pb539) = some (.bool true) := by kernel_rfl
theorem pb539_h : pb539.holds EE := ent_run envOk paT_holds _ _ pb539_ok pb539_run
-- decani/office.Kept, 6468 steps
noncomputable def pb551 : Ent :=
  ⟨11, [.agg ⟨[iP 2, iP 0, .slice (some ⟨6, 0, none⟩) 2 18446744073709551616, .slice (some ⟨7, 0, none⟩) 1 1, .bool false, .slice none 0 0, .bool false, .slice none 0 0]⟩, iP 0, iP 1], 8,
   gB ++ [(6, .cells true 4 [iP 1, iP 1, iP 1, iP 1, iP 1, iP 1]),
    (7, .cells true 0 [iP 1, iP 1, iP 1])],
   [],
   .tuple ⟨[iP 0, iP 0]⟩⟩
theorem pb551_ok : pb551.okS EE.G = true := by kernel_rfl
theorem pb551_run : evT EE paT 1000000000 (.call pb551.f pb551.args) pb551.heap (keptK pb551) = some (.bool true) := by kernel_rfl
theorem pb551_h : pb551.holds EE := ent_run envOk paT_holds _ _ pb551_ok pb551_run
end Go.Proofs.YtmjpnohpmfmdlaaGreatDoor
