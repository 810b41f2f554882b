/- Known calls, part 17: what single calls hand back, at small heaps, by the kernel's own run of the evaluator. No conditions. -/
import Derived.Test.YtmjpnohpmfmdlaaGreatDoorPAT
set_option linter.all false
namespace Go.Proofs.YtmjpnohpmfmdlaaGreatDoor
open Go.Ai
set_option maxRecDepth 1000000
-- decani/office.Chief, 9117 steps
noncomputable def pb17 : Ent :=
  ⟨14, [.agg ⟨[iP 2, iP 0, .slice (some ⟨6, 0, none⟩) 3 18446744073709551616, .slice (some ⟨7, 0, none⟩) 1 1, .bool false, .slice none 0 0, .bool false, .slice none 0 0]⟩, iP 0, iP 1], 8,
   gB ++ [(6, .cells true 4 [iP 0, iP 0, iP 1, iP 0, iP 0, iP 1, iP 0, iP 0, iP 1]),
    (7, .cells true 0 [iP 1, iP 1, iP 1])],
   [.cells true 2 [iP 1]],
   .tuple ⟨[.slice (some ⟨8, 0, none⟩) 1 18446744073709551616, iP 0]⟩⟩
theorem pb17_ok : pb17.okS EE.G = true := by kernel_rfl
theorem pb17_run : evT EE paT 1000000000 (.call pb17.f pb17.args) pb17.heap (keptK pb17) = some (.bool true) := by kernel_rfl
theorem pb17_h : pb17.holds EE := ent_run envOk paT_holds _ _ pb17_ok pb17_run
-- decani/office.Kept, 10406 steps
noncomputable def pb38 : Ent :=
  ⟨11, [.agg ⟨[iP 2, iP 0, .slice (some ⟨6, 0, none⟩) 4 18446744073709551616, .slice (some ⟨7, 0, none⟩) 1 1, .bool false, .slice none 0 0, .bool false, .slice none 0 0]⟩, iP 0, iP 0], 8,
   gB ++ [(6, .cells true 4 [iP 1, iP 1, iP 1, iP 1, iP 1, iP 1, iP 1, iP 1, iP 1, iP 1, iP 1, iP 1]),
    (7, .cells true 0 [iP 1, iP 1, iP 1])],
   [],
   .tuple ⟨[iP 2, iP 0]⟩⟩
theorem pb38_ok : pb38.okS EE.G = true := by kernel_rfl
theorem pb38_run : evT EE paT 1000000000 (.call pb38.f pb38.args) pb38.heap (keptK pb38) = some (.bool true) := by kernel_rfl
theorem pb38_h : pb38.holds EE := ent_run envOk paT_holds _ _ pb38_ok pb38_run
-- decani/office.Kept, 7945 steps
noncomputable def pb59 : Ent :=
  ⟨11, [.agg ⟨[iP 3, iP 0, .slice (some ⟨6, 0, none⟩) 2 18446744073709551616, .slice (some ⟨7, 0, none⟩) 1 1, .bool false, .slice none 0 0, .bool false, .slice none 0 0]⟩, iP 0, iP 0], 8,
   gB ++ [(6, .cells true 4 [iP 2, iP 2, iP 1, iP 2, iP 2, iP 1]),
    (7, .cells true 0 [iP 1, iP 1, iP 1])],
   [],
   .tuple ⟨[iP 2, iP 0]⟩⟩
theorem pb59_ok : pb59.okS EE.G = true := by kernel_rfl
theorem pb59_run : evT EE paT 1000000000 (.call pb59.f pb59.args) pb59.heap (keptK pb59) = some (.bool true) := by kernel_rfl
theorem pb59_h : pb59.holds EE := ent_run envOk paT_holds _ _ pb59_ok pb59_run
-- decani/office.Falls, 10191 steps
noncomputable def pb80 : Ent :=
  ⟨9, [.agg ⟨[iP 3, iP 0, .slice (some ⟨6, 0, none⟩) 3 18446744073709551616, .slice (some ⟨7, 0, none⟩) 1 1, .bool false, .slice none 0 0, .bool false, .slice none 0 0]⟩, iP 0, iP 0], 8,
   gB ++ [(6, .cells true 4 [iP 2, iP 2, iP 1, iP 2, iP 2, iP 1, iP 2, iP 2, iP 1]),
    (7, .cells true 0 [iP 1, iP 1, iP 1])],
   [],
   .tuple ⟨[.agg ⟨[iP 2, iP 2]⟩, iP 0]⟩⟩
theorem pb80_ok : pb80.okS EE.G = true := by kernel_rfl
theorem pb80_run : evT EE paT 1000000000 (.call pb80.f pb80.args) pb80.heap (keptK pb80) = some (.bool true) := by kernel_rfl
theorem pb80_h : pb80.holds EE := ent_run envOk paT_holds _ _ pb80_ok pb80_run
-- decani/office.Falls, 13603 steps
noncomputable def pb101 : Ent :=
  ⟨9, [.agg ⟨[iP 3, iP 0, .slice (some ⟨6, 0, none⟩) 4 18446744073709551616, .slice (some ⟨7, 0, none⟩) 1 1, .bool false, .slice none 0 0, .bool false, .slice none 0 0]⟩, iP 0, iP 1], 8,
   gB ++ [(6, .cells true 4 [iP 1, iP 1, iP 1, iP 1, iP 1, iP 1, iP 1, iP 1, iP 1, iP 1, iP 1, iP 1]),
    (7, .cells true 0 [iP 1, iP 1, iP 1])],
   [],
   .tuple ⟨[.agg ⟨[iP 2, iP 2]⟩, iP 0]⟩⟩
theorem pb101_ok : pb101.okS EE.G = true := by kernel_rfl
theorem pb101_run : evT EE paT 1000000000 (.call pb101.f pb101.args) pb101.heap (keptK pb101) = some (.bool true) := by kernel_rfl
theorem pb101_h : pb101.holds EE := ent_run envOk paT_holds _ _ pb101_ok pb101_run
-- decani/office.Kept, 7080 steps
noncomputable def pb122 : Ent :=
  ⟨11, [.agg ⟨[iP 4, iP 0, .slice (some ⟨6, 0, none⟩) 1 18446744073709551616, .slice (some ⟨7, 0, none⟩) 1 1, .bool false, .slice none 0 0, .bool false, .slice none 0 0]⟩, iP 0, iP 0], 8,
   gB ++ [(6, .cells true 4 [iP 3, iP 3, iP 1]),
    (7, .cells true 0 [iP 1, iP 1, iP 1])],
   [],
   .tuple ⟨[iP 2, iP 0]⟩⟩
theorem pb122_ok : pb122.okS EE.G = true := by kernel_rfl
theorem pb122_run : evT EE paT 1000000000 (.call pb122.f pb122.args) pb122.heap (keptK pb122) = some (.bool true) := by kernel_rfl
theorem pb122_h : pb122.holds EE := ent_run envOk paT_holds _ _ pb122_ok pb122_run
-- decani/office.Chief, 9339 steps
noncomputable def pb143 : Ent :=
  ⟨14, [.agg ⟨[iP 4, iP 0, .slice (some ⟨6, 0, none⟩) 2 18446744073709551616, .slice (some ⟨7, 0, none⟩) 1 1, .bool false, .slice none 0 0, .bool false, .slice none 0 0]⟩, iP 0, iP 3], 8,
   gB ++ [(6, .cells true 4 [iP 3, iP 3, iP 1, iP 3, iP 3, iP 1]),
    (7, .cells true 0 [iP 1, iP 1, iP 1])],
   [.cells true 2 [iP 0]],
   .tuple ⟨[.slice (some ⟨8, 0, none⟩) 1 18446744073709551616, iP 0]⟩⟩
theorem pb143_ok : pb143.okS EE.G = true := by kernel_rfl
theorem pb143_run : evT EE paT 1000000000 (.call pb143.f pb143.args) pb143.heap (keptK pb143) = some (.bool true) := by kernel_rfl
theorem pb143_h : pb143.holds EE := ent_run envOk paT_holds _ _ pb143_ok pb143_run
-- decani/office.Falls, 12481 steps
noncomputable def pb164 : Ent :=
  ⟨9, [.agg ⟨[iP 4, iP 0, .slice (some ⟨6, 0, none⟩) 3 18446744073709551616, .slice (some ⟨7, 0, none⟩) 1 1, .bool false, .slice none 0 0, .bool false, .slice none 0 0]⟩, iP 0, iP 0], 8,
   gB ++ [(6, .cells true 4 [iP 2, iP 2, iP 1, iP 2, iP 2, iP 1, iP 2, iP 2, iP 1]),
    (7, .cells true 0 [iP 1, iP 1, iP 1])],
   [],
   .tuple ⟨[.agg ⟨[iP 2, iP 2]⟩, iP 0]⟩⟩
theorem pb164_ok : pb164.okS EE.G = true := by kernel_rfl
theorem pb164_run : evT EE paT 1000000000 (.call pb164.f pb164.args) pb164.heap (keptK pb164) = some (.bool true) := by kernel_rfl
theorem pb164_h : pb164.holds EE := ent_run envOk paT_holds _ _ pb164_ok pb164_run
-- decani/office.Falls, 16169 steps
noncomputable def pb185 : Ent :=
  ⟨9, [.agg ⟨[iP 4, iP 0, .slice (some ⟨6, 0, none⟩) 4 18446744073709551616, .slice (some ⟨7, 0, none⟩) 1 1, .bool false, .slice none 0 0, .bool false, .slice none 0 0]⟩, iP 0, iP 2], 8,
   gB ++ [(6, .cells true 4 [iP 0, iP 0, iP 1, iP 0, iP 0, iP 1, iP 0, iP 0, iP 1, iP 0, iP 0, iP 1]),
    (7, .cells true 0 [iP 1, iP 1, iP 1])],
   [],
   .tuple ⟨[.agg ⟨[iP 2, iP 2]⟩, iP 0]⟩⟩
theorem pb185_ok : pb185.okS EE.G = true := by kernel_rfl
theorem pb185_run : evT EE paT 1000000000 (.call pb185.f pb185.args) pb185.heap (keptK pb185) = some (.bool true) := by kernel_rfl
theorem pb185_h : pb185.holds EE := ent_run envOk paT_holds _ _ pb185_ok pb185_run
-- decani/office.Kept, 15376 steps
noncomputable def pb206 : Ent :=
  ⟨11, [.agg ⟨[iP 4, iP 0, .slice (some ⟨6, 0, none⟩) 4 18446744073709551616, .slice (some ⟨7, 0, none⟩) 1 1, .bool false, .slice none 0 0, .bool false, .slice none 0 0]⟩, iP 0, iP 1], 8,
   gB ++ [(6, .cells true 4 [iP 2, iP 2, iP 1, iP 2, iP 2, iP 1, iP 2, iP 2, iP 1, iP 2, iP 2, iP 1]),
    (7, .cells true 0 [iP 1, iP 1, iP 1])],
   [],
   .tuple ⟨[iP 2, iP 0]⟩⟩
theorem pb206_ok : pb206.okS EE.G = true := by kernel_rfl
theorem pb206_run : evT EE paT 1000000000 (.call pb206.f pb206.args) pb206.heap (keptK pb206) = some (.bool true) := by kernel_rfl
theorem pb206_h : pb206.holds EE := ent_run envOk paT_holds _ _ pb206_ok pb206_run
-- decani/office.Falls, 8359 steps
noncomputable def pb227 : Ent :=
  ⟨9, [.agg ⟨[iP 5, iP 0, .slice (some ⟨6, 0, none⟩) 1 18446744073709551616, .slice (some ⟨7, 0, none⟩) 1 1, .bool false, .slice none 0 0, .bool false, .slice none 0 0]⟩, iP 0, iP 0], 8,
   gB ++ [(6, .cells true 4 [iP 2, iP 2, iP 1]),
    (7, .cells true 0 [iP 1, iP 1, iP 1])],
   [],
   .tuple ⟨[.agg ⟨[iP 2, iP 2]⟩, iP 0]⟩⟩
theorem pb227_ok : pb227.okS EE.G = true := by kernel_rfl
theorem pb227_run : evT EE paT 1000000000 (.call pb227.f pb227.args) pb227.heap (keptK pb227) = some (.bool true) := by kernel_rfl
theorem pb227_h : pb227.holds EE := ent_run envOk paT_holds _ _ pb227_ok pb227_run
-- decani/office.Falls, 10983 steps
noncomputable def pb248 : Ent :=
  ⟨9, [.agg ⟨[iP 5, iP 0, .slice (some ⟨6, 0, none⟩) 2 18446744073709551616, .slice (some ⟨7, 0, none⟩) 1 1, .bool false, .slice none 0 0, .bool false, .slice none 0 0]⟩, iP 0, iP 0], 8,
   gB ++ [(6, .cells true 4 [iP 2, iP 2, iP 1, iP 2, iP 2, iP 1]),
    (7, .cells true 0 [iP 1, iP 1, iP 1])],
   [],
   .tuple ⟨[.agg ⟨[iP 2, iP 2]⟩, iP 0]⟩⟩
theorem pb248_ok : pb248.okS EE.G = true := by kernel_rfl
theorem pb248_run : evT EE paT 1000000000 (.call pb248.f pb248.args) pb248.heap (keptK pb248) = some (.bool true) := by kernel_rfl
theorem pb248_h : pb248.holds EE := ent_run envOk paT_holds _ _ pb248_ok pb248_run
-- decani/office.Kept, 14052 steps
noncomputable def pb269 : Ent :=
  ⟨11, [.agg ⟨[iP 5, iP 0, .slice (some ⟨6, 0, none⟩) 3 18446744073709551616, .slice (some ⟨7, 0, none⟩) 1 1, .bool false, .slice none 0 0, .bool false, .slice none 0 0]⟩, iP 0, iP 1], 8,
   gB ++ [(6, .cells true 4 [iP 0, iP 0, iP 1, iP 0, iP 0, iP 1, iP 0, iP 0, iP 1]),
    (7, .cells true 0 [iP 1, iP 1, iP 1])],
   [],
   .tuple ⟨[iP 2, iP 0]⟩⟩
theorem pb269_ok : pb269.okS EE.G = true := by kernel_rfl
theorem pb269_run : evT EE paT 1000000000 (.call pb269.f pb269.args) pb269.heap (keptK pb269) = some (.bool true) := by kernel_rfl
theorem pb269_h : pb269.holds EE := ent_run envOk paT_holds _ _ pb269_ok pb269_run
-- decani/office.Falls, 14152 steps
noncomputable def pb290 : Ent :=
  ⟨9, [.agg ⟨[iP 5, iP 0, .slice (some ⟨6, 0, none⟩) 3 18446744073709551616, .slice (some ⟨7, 0, none⟩) 1 1, .bool false, .slice none 0 0, .bool false, .slice none 0 0]⟩, iP 0, iP 0], 8,
   gB ++ [(6, .cells true 4 [iP 3, iP 3, iP 1, iP 3, iP 3, iP 1, iP 3, iP 3, iP 1]),
    (7, .cells true 0 [iP 1, iP 1, iP 1])],
   [],
   .tuple ⟨[.agg ⟨[iP 3, iP 3]⟩, iP 0]⟩⟩
theorem pb290_ok : pb290.okS EE.G = true := by kernel_rfl
theorem pb290_run : evT EE paT 1000000000 (.call pb290.f pb290.args) pb290.heap (keptK pb290) = some (.bool true) := by kernel_rfl
theorem pb290_h : pb290.holds EE := ent_run envOk paT_holds _ _ pb290_ok pb290_run
-- decani/office.Falls, 17977 steps
noncomputable def pb311 : Ent :=
  ⟨9, [.agg ⟨[iP 5, iP 0, .slice (some ⟨6, 0, none⟩) 4 18446744073709551616, .slice (some ⟨7, 0, none⟩) 1 1, .bool false, .slice none 0 0, .bool false, .slice none 0 0]⟩, iP 0, iP 2], 8,
   gB ++ [(6, .cells true 4 [iP 0, iP 0, iP 1, iP 0, iP 0, iP 1, iP 0, iP 0, iP 1, iP 0, iP 0, iP 1]),
    (7, .cells true 0 [iP 1, iP 1, iP 1])],
   [],
   .tuple ⟨[.agg ⟨[iP 2, iP 2]⟩, iP 0]⟩⟩
theorem pb311_ok : pb311.okS EE.G = true := by kernel_rfl
theorem pb311_run : evT EE paT 1000000000 (.call pb311.f pb311.args) pb311.heap (keptK pb311) = some (.bool true) := by kernel_rfl
theorem pb311_h : pb311.holds EE := ent_run envOk paT_holds _ _ pb311_ok pb311_run
-- decani/office.Falls, 17940 steps
noncomputable def pb332 : Ent :=
  ⟨9, [.agg ⟨[iP 5, iP 0, .slice (some ⟨6, 0, none⟩) 4 18446744073709551616, .slice (some ⟨7, 0, none⟩) 1 1, .bool false, .slice none 0 0, .bool false, .slice none 0 0]⟩, iP 0, iP 1], 8,
   gB ++ [(6, .cells true 4 [iP 2, iP 2, iP 1, iP 2, iP 2, iP 1, iP 2, iP 2, iP 1, iP 2, iP 2, iP 1]),
    (7, .cells true 0 [iP 1, iP 1, iP 1])],
   [],
   .tuple ⟨[.agg ⟨[iP 3, iP 3]⟩, iP 0]⟩⟩
theorem pb332_ok : pb332.okS EE.G = true := by kernel_rfl
theorem pb332_run : evT EE paT 1000000000 (.call pb332.f pb332.args) pb332.heap (keptK pb332) = some (.bool true) := by kernel_rfl
theorem pb332_h : pb332.holds EE := ent_run envOk paT_holds _ _ pb332_ok pb332_run
-- decani/office.Falls, 15998 steps
noncomputable def pb353 : Ent :=
  ⟨9, [.agg ⟨[iP 5, iP 0, .slice (some ⟨6, 0, none⟩) 4 18446744073709551616, .slice (some ⟨7, 0, none⟩) 1 1, .bool false, .slice none 0 0, .bool false, .slice none 0 0]⟩, iP 0, iP 1], 8,
   gB ++ [(6, .cells true 4 [iP 4, iP 4, iP 1, iP 4, iP 4, iP 1, iP 4, iP 4, iP 1, iP 4, iP 4, iP 1]),
    (7, .cells true 0 [iP 1, iP 1, iP 1])],
   [],
   .tuple ⟨[.agg ⟨[iP 0, iP 0]⟩, iP 4]⟩⟩
theorem pb353_ok : pb353.okS EE.G = true := by kernel_rfl
theorem pb353_run : evT EE paT 1000000000 (.call pb353.f pb353.args) pb353.heap (keptK pb353) = some (.bool true) := by kernel_rfl
theorem pb353_h : pb353.holds EE := ent_run envOk paT_holds _ _ pb353_ok pb353_run
-- decani/office.Falls, 9756 steps
noncomputable def pb374 : Ent :=
  ⟨9, [.agg ⟨[iP 6, iP 0, .slice (some ⟨6, 0, none⟩) 1 18446744073709551616, .slice (some ⟨7, 0, none⟩) 1 1, .bool false, .slice none 0 0, .bool false, .slice none 0 0]⟩, iP 0, iP 0], 8,
   gB ++ [(6, .cells true 4 [iP 5, iP 5, iP 1]),
    (7, .cells true 0 [iP 1, iP 1, iP 1])],
   [],
   .tuple ⟨[.agg ⟨[iP 5, iP 5]⟩, iP 0]⟩⟩
theorem pb374_ok : pb374.okS EE.G = true := by kernel_rfl
theorem pb374_run : evT EE paT 1000000000 (.call pb374.f pb374.args) pb374.heap (keptK pb374) = some (.bool true) := by kernel_rfl
theorem pb374_h : pb374.holds EE := ent_run envOk paT_holds _ _ pb374_ok pb374_run
-- decani/office.Falls, 12466 steps
noncomputable def pb395 : Ent :=
  ⟨9, [.agg ⟨[iP 6, iP 0, .slice (some ⟨6, 0, none⟩) 2 18446744073709551616, .slice (some ⟨7, 0, none⟩) 1 1, .bool false, .slice none 0 0, .bool false, .slice none 0 0]⟩, iP 0, iP 0], 8,
   gB ++ [(6, .cells true 4 [iP 3, iP 3, iP 1, iP 3, iP 3, iP 1]),
    (7, .cells true 0 [iP 1, iP 1, iP 1])],
   [],
   .tuple ⟨[.agg ⟨[iP 3, iP 3]⟩, iP 0]⟩⟩
theorem pb395_ok : pb395.okS EE.G = true := by kernel_rfl
theorem pb395_run : evT EE paT 1000000000 (.call pb395.f pb395.args) pb395.heap (keptK pb395) = some (.bool true) := by kernel_rfl
theorem pb395_h : pb395.holds EE := ent_run envOk paT_holds _ _ pb395_ok pb395_run
-- decani/office.Kept, 15672 steps
noncomputable def pb416 : Ent :=
  ⟨11, [.agg ⟨[iP 6, iP 0, .slice (some ⟨6, 0, none⟩) 3 18446744073709551616, .slice (some ⟨7, 0, none⟩) 1 1, .bool false, .slice none 0 0, .bool false, .slice none 0 0]⟩, iP 0, iP 1], 8,
   gB ++ [(6, .cells true 4 [iP 0, iP 0, iP 1, iP 0, iP 0, iP 1, iP 0, iP 0, iP 1]),
    (7, .cells true 0 [iP 1, iP 1, iP 1])],
   [],
   .tuple ⟨[iP 2, iP 0]⟩⟩
theorem pb416_ok : pb416.okS EE.G = true := by kernel_rfl
theorem pb416_run : evT EE paT 1000000000 (.call pb416.f pb416.args) pb416.heap (keptK pb416) = some (.bool true) := by kernel_rfl
theorem pb416_h : pb416.holds EE := ent_run envOk paT_holds _ _ pb416_ok pb416_run
-- decani/office.Kept, 15825 steps
noncomputable def pb437 : Ent :=
  ⟨11, [.agg ⟨[iP 6, iP 0, .slice (some ⟨6, 0, none⟩) 3 18446744073709551616, .slice (some ⟨7, 0, none⟩) 1 1, .bool false, .slice none 0 0, .bool false, .slice none 0 0]⟩, iP 0, iP 2], 8,
   gB ++ [(6, .cells true 4 [iP 2, iP 2, iP 1, iP 2, iP 2, iP 1, iP 2, iP 2, iP 1]),
    (7, .cells true 0 [iP 1, iP 1, iP 1])],
   [],
   .tuple ⟨[iP 2, iP 0]⟩⟩
theorem pb437_ok : pb437.okS EE.G = true := by kernel_rfl
theorem pb437_run : evT EE paT 1000000000 (.call pb437.f pb437.args) pb437.heap (keptK pb437) = some (.bool true) := by kernel_rfl
theorem pb437_h : pb437.holds EE := ent_run envOk paT_holds _ _ pb437_ok pb437_run
-- decani/office.Chief, 14927 steps
noncomputable def pb458 : Ent :=
  ⟨14, [.agg ⟨[iP 6, iP 0, .slice (some ⟨6, 0, none⟩) 3 18446744073709551616, .slice (some ⟨7, 0, none⟩) 1 1, .bool false, .slice none 0 0, .bool false, .slice none 0 0]⟩, iP 0, iP 5], 8,
   gB ++ [(6, .cells true 4 [iP 5, iP 5, iP 1, iP 5, iP 5, iP 1, iP 5, iP 5, iP 1]),
    (7, .cells true 0 [iP 1, iP 1, iP 1])],
   [.cells true 2 [iP 0]],
   .tuple ⟨[.slice (some ⟨8, 0, none⟩) 1 18446744073709551616, iP 0]⟩⟩
theorem pb458_ok : pb458.okS EE.G = true := by kernel_rfl
theorem pb458_run : evT EE paT 1000000000 (.call pb458.f pb458.args) pb458.heap (keptK pb458) = some (.bool true) := by kernel_rfl
theorem pb458_h : pb458.holds EE := ent_run envOk paT_holds _ _ pb458_ok pb458_run
-- decani/office.Kept, 19699 steps
noncomputable def pb479 : Ent :=
  ⟨11, [.agg ⟨[iP 6, iP 0, .slice (some ⟨6, 0, none⟩) 4 18446744073709551616, .slice (some ⟨7, 0, none⟩) 1 1, .bool false, .slice none 0 0, .bool false, .slice none 0 0]⟩, iP 0, iP 1], 8,
   gB ++ [(6, .cells true 4 [iP 1, iP 1, iP 1, iP 1, iP 1, iP 1, iP 1, iP 1, iP 1, iP 1, iP 1, iP 1]),
    (7, .cells true 0 [iP 1, iP 1, iP 1])],
   [],
   .tuple ⟨[iP 2, iP 0]⟩⟩
theorem pb479_ok : pb479.okS EE.G = true := by kernel_rfl
theorem pb479_run : evT EE paT 1000000000 (.call pb479.f pb479.args) pb479.heap (keptK pb479) = some (.bool true) := by kernel_rfl
theorem pb479_h : pb479.holds EE := ent_run envOk paT_holds _ _ pb479_ok pb479_run
-- decani/office.Kept, 19662 steps
noncomputable def pb500 : Ent :=
  ⟨11, [.agg ⟨[iP 6, iP 0, .slice (some ⟨6, 0, none⟩) 4 18446744073709551616, .slice (some ⟨7, 0, none⟩) 1 1, .bool false, .slice none 0 0, .bool false, .slice none 0 0]⟩, iP 0, iP 0], 8,
   gB ++ [(6, .cells true 4 [iP 3, iP 3, iP 1, iP 3, iP 3, iP 1, iP 3, iP 3, iP 1, iP 3, iP 3, iP 1]),
    (7, .cells true 0 [iP 1, iP 1, iP 1])],
   [],
   .tuple ⟨[iP 2, iP 0]⟩⟩
theorem pb500_ok : pb500.okS EE.G = true := by kernel_rfl
theorem pb500_run : evT EE paT 1000000000 (.call pb500.f pb500.args) pb500.heap (keptK pb500) = some (.bool true) := by kernel_rfl
theorem pb500_h : pb500.holds EE := ent_run envOk paT_holds _ _ pb500_ok pb500_run
-- decani/office.Kept, 17842 steps
noncomputable def pb521 : Ent :=
  ⟨11, [.agg ⟨[iP 6, iP 0, .slice (some ⟨6, 0, none⟩) 4 18446744073709551616, .slice (some ⟨7, 0, none⟩) 1 1, .bool false, .slice none 0 0, .bool false, .slice none 0 0]⟩, iP 0, iP 0], 8,
   gB ++ [(6, .cells true 4 [iP 5, iP 5, iP 1, iP 5, iP 5, iP 1, iP 5, iP 5, iP 1, iP 5, iP 5, iP 1]),
    (7, .cells true 0 [iP 1, iP 1, iP 1])],
   [],
   .tuple ⟨[iP 2, iP 0]⟩⟩
theorem pb521_ok : pb521.okS EE.G = true := by kernel_rfl
theorem pb521_run : evT EE paT 1000000000 (.call pb521.f pb521.args) pb521.heap (keptK pb521) = some (.bool true) := by kernel_rfl
theorem pb521_h : pb521.holds EE := ent_run envOk paT_holds _ _ pb521_ok pb521_run
-- decani/office.Falls, 6636 steps
noncomputable def pb542 : Ent :=
  ⟨9, [.agg ⟨[iP 2, iP 0, .slice (some ⟨6, 0, none⟩) 2 18446744073709551616, .slice (some ⟨7, 0, none⟩) 1 1, .bool false, .slice none 0 0, .bool false, .slice none 0 0]⟩, iP 0, iP 1], 8,
   gB ++ [(6, .cells true 4 [iP 0, iP 0, iP 1, iP 0, iP 0, iP 1]),
    (7, .cells true 0 [iP 1, iP 1, iP 1])],
   [],
   .tuple ⟨[.agg ⟨[iP 1, iP 1]⟩, iP 0]⟩⟩
theorem pb542_ok : pb542.okS EE.G = true := by kernel_rfl
theorem pb542_run : evT EE paT 1000000000 (.call pb542.f pb542.args) pb542.heap (keptK pb542) = some (.bool true) := by kernel_rfl
theorem pb542_h : pb542.holds EE := ent_run envOk paT_holds _ _ pb542_ok pb542_run
-- decani/office.Falls, 6477 steps
noncomputable def pb549 : Ent :=
  ⟨9, [.agg ⟨[iP 2, iP 0, .slice (some ⟨6, 0, none⟩) 2 18446744073709551616, .slice (some ⟨7, 0, none⟩) 1 1, .bool false, .slice none 0 0, .bool false, .slice none 0 0]⟩, iP 0, iP 1], 8,
   gB ++ [(6, .cells true 4 [iP 1, iP 1, iP 1, iP 1, iP 1, iP 1]),
    (7, .cells true 0 [iP 1, iP 1, iP 1])],
   [],
   .tuple ⟨[.agg ⟨[iP 0, iP 0]⟩, iP 4]⟩⟩
theorem pb549_ok : pb549.okS EE.G = true := by kernel_rfl
theorem pb549_run : evT EE paT 1000000000 (.call pb549.f pb549.args) pb549.heap (keptK pb549) = some (.bool true) := by kernel_rfl
theorem pb549_h : pb549.holds EE := ent_run envOk paT_holds _ _ pb549_ok pb549_run
end Go.Proofs.YtmjpnohpmfmdlaaGreatDoor
