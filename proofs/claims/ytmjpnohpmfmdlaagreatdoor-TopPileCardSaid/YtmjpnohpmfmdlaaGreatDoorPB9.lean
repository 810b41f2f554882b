/- Known calls, part 9: what single calls hand back, at small heaps, by the kernel's own run of the evaluator. No conditions. -/
import Derived.Test.YtmjpnohpmfmdlaaGreatDoorPAT
set_option linter.all false
namespace Go.Proofs.YtmjpnohpmfmdlaaGreatDoor
open Go.Ai
set_option maxRecDepth 1000000
-- decani/office.Kept, 8553 steps
noncomputable def pb9 : Ent :=
  ⟨11, [.agg ⟨[iP 1, iP 0, .slice (some ⟨6, 0, none⟩) 4 18446744073709551616, .slice (some ⟨7, 0, none⟩) 1 1, .bool false, .slice none 0 0, .bool false, .slice none 0 0]⟩, iP 0, iP 2], 8,
   gB ++ [(6, .cells true 4 [iP 0, iP 0, iP 1, iP 0, iP 0, iP 1, iP 0, iP 0, iP 1, iP 0, iP 0, iP 1]),
    (7, .cells true 0 [iP 1, iP 1, iP 1])],
   [],
   .tuple ⟨[iP 0, iP 0]⟩⟩
theorem pb9_ok : pb9.okS EE.G = true := by kernel_rfl
theorem pb9_run : evT EE paT 1000000000 (.call pb9.f pb9.args) pb9.heap (keptK pb9) = some (.bool true) := by kernel_rfl
theorem pb9_h : pb9.holds EE := ent_run envOk paT_holds _ _ pb9_ok pb9_run
-- decani/office.Falls, 11744 steps
noncomputable def pb30 : Ent :=
  ⟨9, [.agg ⟨[iP 2, iP 0, .slice (some ⟨6, 0, none⟩) 4 18446744073709551616, .slice (some ⟨7, 0, none⟩) 1 1, .bool false, .slice none 0 0, .bool false, .slice none 0 0]⟩, iP 0, iP 1], 8,
   gB ++ [(6, .cells true 4 [iP 0, iP 0, iP 1, iP 0, iP 0, iP 1, iP 0, iP 0, iP 1, iP 0, iP 0, iP 1]),
    (7, .cells true 0 [iP 1, iP 1, iP 1])],
   [],
   .tuple ⟨[.agg ⟨[iP 1, iP 1]⟩, iP 0]⟩⟩
theorem pb30_ok : pb30.okS EE.G = true := by kernel_rfl
theorem pb30_run : evT EE paT 1000000000 (.call pb30.f pb30.args) pb30.heap (keptK pb30) = some (.bool true) := by kernel_rfl
theorem pb30_h : pb30.holds EE := ent_run envOk paT_holds _ _ pb30_ok pb30_run
-- decani/office.Chief, 7995 steps
noncomputable def pb51 : Ent :=
  ⟨14, [.agg ⟨[iP 3, iP 0, .slice (some ⟨6, 0, none⟩) 2 18446744073709551616, .slice (some ⟨7, 0, none⟩) 1 1, .bool false, .slice none 0 0, .bool false, .slice none 0 0]⟩, iP 0, iP 1], 8,
   gB ++ [(6, .cells true 4 [iP 0, iP 0, iP 1, iP 0, iP 0, iP 1]),
    (7, .cells true 0 [iP 1, iP 1, iP 1])],
   [.cells true 2 [iP 1]],
   .tuple ⟨[.slice (some ⟨8, 0, none⟩) 1 18446744073709551616, iP 0]⟩⟩
theorem pb51_ok : pb51.okS EE.G = true := by kernel_rfl
theorem pb51_run : evT EE paT 1000000000 (.call pb51.f pb51.args) pb51.heap (keptK pb51) = some (.bool true) := by kernel_rfl
theorem pb51_h : pb51.holds EE := ent_run envOk paT_holds _ _ pb51_ok pb51_run
-- decani/office.Falls, 10810 steps
noncomputable def pb72 : Ent :=
  ⟨9, [.agg ⟨[iP 3, iP 0, .slice (some ⟨6, 0, none⟩) 3 18446744073709551616, .slice (some ⟨7, 0, none⟩) 1 1, .bool false, .slice none 0 0, .bool false, .slice none 0 0]⟩, iP 0, iP 0], 8,
   gB ++ [(6, .cells true 4 [iP 1, iP 1, iP 1, iP 1, iP 1, iP 1, iP 1, iP 1, iP 1]),
    (7, .cells true 0 [iP 1, iP 1, iP 1])],
   [],
   .tuple ⟨[.agg ⟨[iP 1, iP 1]⟩, iP 0]⟩⟩
theorem pb72_ok : pb72.okS EE.G = true := by kernel_rfl
theorem pb72_run : evT EE paT 1000000000 (.call pb72.f pb72.args) pb72.heap (keptK pb72) = some (.bool true) := by kernel_rfl
theorem pb72_h : pb72.holds EE := ent_run envOk paT_holds _ _ pb72_ok pb72_run
-- decani/office.Falls, 14273 steps
noncomputable def pb93 : Ent :=
  ⟨9, [.agg ⟨[iP 3, iP 0, .slice (some ⟨6, 0, none⟩) 4 18446744073709551616, .slice (some ⟨7, 0, none⟩) 1 1, .bool false, .slice none 0 0, .bool false, .slice none 0 0]⟩, iP 0, iP 2], 8,
   gB ++ [(6, .cells true 4 [iP 0, iP 0, iP 1, iP 0, iP 0, iP 1, iP 0, iP 0, iP 1, iP 0, iP 0, iP 1]),
    (7, .cells true 0 [iP 1, iP 1, iP 1])],
   [],
   .tuple ⟨[.agg ⟨[iP 2, iP 2]⟩, iP 0]⟩⟩
theorem pb93_ok : pb93.okS EE.G = true := by kernel_rfl
theorem pb93_run : evT EE paT 1000000000 (.call pb93.f pb93.args) pb93.heap (keptK pb93) = some (.bool true) := by kernel_rfl
theorem pb93_h : pb93.holds EE := ent_run envOk paT_holds _ _ pb93_ok pb93_run
-- decani/office.Kept, 12271 steps
noncomputable def pb114 : Ent :=
  ⟨11, [.agg ⟨[iP 3, iP 0, .slice (some ⟨6, 0, none⟩) 4 18446744073709551616, .slice (some ⟨7, 0, none⟩) 1 1, .bool false, .slice none 0 0, .bool false, .slice none 0 0]⟩, iP 0, iP 2], 8,
   gB ++ [(6, .cells true 4 [iP 2, iP 2, iP 1, iP 2, iP 2, iP 1, iP 2, iP 2, iP 1, iP 2, iP 2, iP 1]),
    (7, .cells true 0 [iP 1, iP 1, iP 1])],
   [],
   .tuple ⟨[iP 0, iP 0]⟩⟩
theorem pb114_ok : pb114.okS EE.G = true := by kernel_rfl
theorem pb114_run : evT EE paT 1000000000 (.call pb114.f pb114.args) pb114.heap (keptK pb114) = some (.bool true) := by kernel_rfl
theorem pb114_h : pb114.holds EE := ent_run envOk paT_holds _ _ pb114_ok pb114_run
-- decani/office.Falls, 9551 steps
noncomputable def pb135 : Ent :=
  ⟨9, [.agg ⟨[iP 4, iP 0, .slice (some ⟨6, 0, none⟩) 2 18446744073709551616, .slice (some ⟨7, 0, none⟩) 1 1, .bool false, .slice none 0 0, .bool false, .slice none 0 0]⟩, iP 0, iP 0], 8,
   gB ++ [(6, .cells true 4 [iP 2, iP 2, iP 1, iP 2, iP 2, iP 1]),
    (7, .cells true 0 [iP 1, iP 1, iP 1])],
   [],
   .tuple ⟨[.agg ⟨[iP 2, iP 2]⟩, iP 0]⟩⟩
theorem pb135_ok : pb135.okS EE.G = true := by kernel_rfl
theorem pb135_run : evT EE paT 1000000000 (.call pb135.f pb135.args) pb135.heap (keptK pb135) = some (.bool true) := by kernel_rfl
theorem pb135_h : pb135.holds EE := ent_run envOk paT_holds _ _ pb135_ok pb135_run
-- decani/office.Kept, 12432 steps
noncomputable def pb156 : Ent :=
  ⟨11, [.agg ⟨[iP 4, iP 0, .slice (some ⟨6, 0, none⟩) 3 18446744073709551616, .slice (some ⟨7, 0, none⟩) 1 1, .bool false, .slice none 0 0, .bool false, .slice none 0 0]⟩, iP 0, iP 0], 8,
   gB ++ [(6, .cells true 4 [iP 1, iP 1, iP 1, iP 1, iP 1, iP 1, iP 1, iP 1, iP 1]),
    (7, .cells true 0 [iP 1, iP 1, iP 1])],
   [],
   .tuple ⟨[iP 2, iP 0]⟩⟩
theorem pb156_ok : pb156.okS EE.G = true := by kernel_rfl
theorem pb156_run : evT EE paT 1000000000 (.call pb156.f pb156.args) pb156.heap (keptK pb156) = some (.bool true) := by kernel_rfl
theorem pb156_h : pb156.holds EE := ent_run envOk paT_holds _ _ pb156_ok pb156_run
-- decani/office.Falls, 11791 steps
noncomputable def pb177 : Ent :=
  ⟨9, [.agg ⟨[iP 4, iP 0, .slice (some ⟨6, 0, none⟩) 3 18446744073709551616, .slice (some ⟨7, 0, none⟩) 1 1, .bool false, .slice none 0 0, .bool false, .slice none 0 0]⟩, iP 0, iP 2], 8,
   gB ++ [(6, .cells true 4 [iP 3, iP 3, iP 1, iP 3, iP 3, iP 1, iP 3, iP 3, iP 1]),
    (7, .cells true 0 [iP 1, iP 1, iP 1])],
   [],
   .tuple ⟨[.agg ⟨[iP 0, iP 0]⟩, iP 4]⟩⟩
theorem pb177_ok : pb177.okS EE.G = true := by kernel_rfl
theorem pb177_run : evT EE paT 1000000000 (.call pb177.f pb177.args) pb177.heap (keptK pb177) = some (.bool true) := by kernel_rfl
theorem pb177_h : pb177.holds EE := ent_run envOk paT_holds _ _ pb177_ok pb177_run
-- decani/office.Kept, 16046 steps
noncomputable def pb198 : Ent :=
  ⟨11, [.agg ⟨[iP 4, iP 0, .slice (some ⟨6, 0, none⟩) 4 18446744073709551616, .slice (some ⟨7, 0, none⟩) 1 1, .bool false, .slice none 0 0, .bool false, .slice none 0 0]⟩, iP 0, iP 2], 8,
   gB ++ [(6, .cells true 4 [iP 1, iP 1, iP 1, iP 1, iP 1, iP 1, iP 1, iP 1, iP 1, iP 1, iP 1, iP 1]),
    (7, .cells true 0 [iP 1, iP 1, iP 1])],
   [],
   .tuple ⟨[iP 2, iP 0]⟩⟩
theorem pb198_ok : pb198.okS EE.G = true := by kernel_rfl
theorem pb198_run : evT EE paT 1000000000 (.call pb198.f pb198.args) pb198.heap (keptK pb198) = some (.bool true) := by kernel_rfl
theorem pb198_h : pb198.holds EE := ent_run envOk paT_holds _ _ pb198_ok pb198_run
-- decani/office.Falls, 14139 steps
noncomputable def pb219 : Ent :=
  ⟨9, [.agg ⟨[iP 4, iP 0, .slice (some ⟨6, 0, none⟩) 4 18446744073709551616, .slice (some ⟨7, 0, none⟩) 1 1, .bool false, .slice none 0 0, .bool false, .slice none 0 0]⟩, iP 0, iP 3], 8,
   gB ++ [(6, .cells true 4 [iP 3, iP 3, iP 1, iP 3, iP 3, iP 1, iP 3, iP 3, iP 1, iP 3, iP 3, iP 1]),
    (7, .cells true 0 [iP 1, iP 1, iP 1])],
   [],
   .tuple ⟨[.agg ⟨[iP 0, iP 0]⟩, iP 4]⟩⟩
theorem pb219_ok : pb219.okS EE.G = true := by kernel_rfl
theorem pb219_run : evT EE paT 1000000000 (.call pb219.f pb219.args) pb219.heap (keptK pb219) = some (.bool true) := by kernel_rfl
theorem pb219_h : pb219.holds EE := ent_run envOk paT_holds _ _ pb219_ok pb219_run
-- decani/office.Kept, 10846 steps
noncomputable def pb240 : Ent :=
  ⟨11, [.agg ⟨[iP 5, iP 0, .slice (some ⟨6, 0, none⟩) 2 18446744073709551616, .slice (some ⟨7, 0, none⟩) 1 1, .bool false, .slice none 0 0, .bool false, .slice none 0 0]⟩, iP 0, iP 1], 8,
   gB ++ [(6, .cells true 4 [iP 0, iP 0, iP 1, iP 0, iP 0, iP 1]),
    (7, .cells true 0 [iP 1, iP 1, iP 1])],
   [],
   .tuple ⟨[iP 2, iP 0]⟩⟩
theorem pb240_ok : pb240.okS EE.G = true := by kernel_rfl
theorem pb240_run : evT EE paT 1000000000 (.call pb240.f pb240.args) pb240.heap (keptK pb240) = some (.bool true) := by kernel_rfl
theorem pb240_h : pb240.holds EE := ent_run envOk paT_holds _ _ pb240_ok pb240_run
-- decani/office.Kept, 10911 steps
noncomputable def pb261 : Ent :=
  ⟨11, [.agg ⟨[iP 5, iP 0, .slice (some ⟨6, 0, none⟩) 2 18446744073709551616, .slice (some ⟨7, 0, none⟩) 1 1, .bool false, .slice none 0 0, .bool false, .slice none 0 0]⟩, iP 0, iP 0], 8,
   gB ++ [(6, .cells true 4 [iP 4, iP 4, iP 1, iP 4, iP 4, iP 1]),
    (7, .cells true 0 [iP 1, iP 1, iP 1])],
   [],
   .tuple ⟨[iP 2, iP 0]⟩⟩
theorem pb261_ok : pb261.okS EE.G = true := by kernel_rfl
theorem pb261_run : evT EE paT 1000000000 (.call pb261.f pb261.args) pb261.heap (keptK pb261) = some (.bool true) := by kernel_rfl
theorem pb261_h : pb261.holds EE := ent_run envOk paT_holds _ _ pb261_ok pb261_run
-- decani/office.Kept, 14103 steps
noncomputable def pb282 : Ent :=
  ⟨11, [.agg ⟨[iP 5, iP 0, .slice (some ⟨6, 0, none⟩) 3 18446744073709551616, .slice (some ⟨7, 0, none⟩) 1 1, .bool false, .slice none 0 0, .bool false, .slice none 0 0]⟩, iP 0, iP 0], 8,
   gB ++ [(6, .cells true 4 [iP 2, iP 2, iP 1, iP 2, iP 2, iP 1, iP 2, iP 2, iP 1]),
    (7, .cells true 0 [iP 1, iP 1, iP 1])],
   [],
   .tuple ⟨[iP 2, iP 0]⟩⟩
theorem pb282_ok : pb282.okS EE.G = true := by kernel_rfl
theorem pb282_run : evT EE paT 1000000000 (.call pb282.f pb282.args) pb282.heap (keptK pb282) = some (.bool true) := by kernel_rfl
theorem pb282_h : pb282.holds EE := ent_run envOk paT_holds _ _ pb282_ok pb282_run
-- decani/office.Falls, 13462 steps
noncomputable def pb303 : Ent :=
  ⟨9, [.agg ⟨[iP 5, iP 0, .slice (some ⟨6, 0, none⟩) 3 18446744073709551616, .slice (some ⟨7, 0, none⟩) 1 1, .bool false, .slice none 0 0, .bool false, .slice none 0 0]⟩, iP 0, iP 2], 8,
   gB ++ [(6, .cells true 4 [iP 4, iP 4, iP 1, iP 4, iP 4, iP 1, iP 4, iP 4, iP 1]),
    (7, .cells true 0 [iP 1, iP 1, iP 1])],
   [],
   .tuple ⟨[.agg ⟨[iP 0, iP 0]⟩, iP 4]⟩⟩
theorem pb303_ok : pb303.okS EE.G = true := by kernel_rfl
theorem pb303_run : evT EE paT 1000000000 (.call pb303.f pb303.args) pb303.heap (keptK pb303) = some (.bool true) := by kernel_rfl
theorem pb303_h : pb303.holds EE := ent_run envOk paT_holds _ _ pb303_ok pb303_run
-- decani/office.Kept, 17942 steps
noncomputable def pb324 : Ent :=
  ⟨11, [.agg ⟨[iP 5, iP 0, .slice (some ⟨6, 0, none⟩) 4 18446744073709551616, .slice (some ⟨7, 0, none⟩) 1 1, .bool false, .slice none 0 0, .bool false, .slice none 0 0]⟩, iP 0, iP 2], 8,
   gB ++ [(6, .cells true 4 [iP 1, iP 1, iP 1, iP 1, iP 1, iP 1, iP 1, iP 1, iP 1, iP 1, iP 1, iP 1]),
    (7, .cells true 0 [iP 1, iP 1, iP 1])],
   [],
   .tuple ⟨[iP 2, iP 0]⟩⟩
theorem pb324_ok : pb324.okS EE.G = true := by kernel_rfl
theorem pb324_run : evT EE paT 1000000000 (.call pb324.f pb324.args) pb324.heap (keptK pb324) = some (.bool true) := by kernel_rfl
theorem pb324_h : pb324.holds EE := ent_run envOk paT_holds _ _ pb324_ok pb324_run
-- decani/office.Chief, 17095 steps
noncomputable def pb345 : Ent :=
  ⟨14, [.agg ⟨[iP 5, iP 0, .slice (some ⟨6, 0, none⟩) 4 18446744073709551616, .slice (some ⟨7, 0, none⟩) 1 1, .bool false, .slice none 0 0, .bool false, .slice none 0 0]⟩, iP 0, iP 4], 8,
   gB ++ [(6, .cells true 4 [iP 3, iP 3, iP 1, iP 3, iP 3, iP 1, iP 3, iP 3, iP 1, iP 3, iP 3, iP 1]),
    (7, .cells true 0 [iP 1, iP 1, iP 1])],
   [.cells true 2 [iP 1]],
   .tuple ⟨[.slice (some ⟨8, 0, none⟩) 1 18446744073709551616, iP 0]⟩⟩
theorem pb345_ok : pb345.okS EE.G = true := by kernel_rfl
theorem pb345_run : evT EE paT 1000000000 (.call pb345.f pb345.args) pb345.heap (keptK pb345) = some (.bool true) := by kernel_rfl
theorem pb345_h : pb345.holds EE := ent_run envOk paT_holds _ _ pb345_ok pb345_run
-- decani/office.Kept, 9517 steps
noncomputable def pb366 : Ent :=
  ⟨11, [.agg ⟨[iP 6, iP 0, .slice (some ⟨6, 0, none⟩) 1 18446744073709551616, .slice (some ⟨7, 0, none⟩) 1 1, .bool false, .slice none 0 0, .bool false, .slice none 0 0]⟩, iP 0, iP 0], 8,
   gB ++ [(6, .cells true 4 [iP 2, iP 2, iP 1]),
    (7, .cells true 0 [iP 1, iP 1, iP 1])],
   [],
   .tuple ⟨[iP 2, iP 0]⟩⟩
theorem pb366_ok : pb366.okS EE.G = true := by kernel_rfl
theorem pb366_run : evT EE paT 1000000000 (.call pb366.f pb366.args) pb366.heap (keptK pb366) = some (.bool true) := by kernel_rfl
theorem pb366_h : pb366.holds EE := ent_run envOk paT_holds _ _ pb366_ok pb366_run
-- decani/office.Kept, 12329 steps
noncomputable def pb387 : Ent :=
  ⟨11, [.agg ⟨[iP 6, iP 0, .slice (some ⟨6, 0, none⟩) 2 18446744073709551616, .slice (some ⟨7, 0, none⟩) 1 1, .bool false, .slice none 0 0, .bool false, .slice none 0 0]⟩, iP 0, iP 1], 8,
   gB ++ [(6, .cells true 4 [iP 1, iP 1, iP 1, iP 1, iP 1, iP 1]),
    (7, .cells true 0 [iP 1, iP 1, iP 1])],
   [],
   .tuple ⟨[iP 2, iP 0]⟩⟩
theorem pb387_ok : pb387.okS EE.G = true := by kernel_rfl
theorem pb387_run : evT EE paT 1000000000 (.call pb387.f pb387.args) pb387.heap (keptK pb387) = some (.bool true) := by kernel_rfl
theorem pb387_h : pb387.holds EE := ent_run envOk paT_holds _ _ pb387_ok pb387_run
-- decani/office.Kept, 12394 steps
noncomputable def pb408 : Ent :=
  ⟨11, [.agg ⟨[iP 6, iP 0, .slice (some ⟨6, 0, none⟩) 2 18446744073709551616, .slice (some ⟨7, 0, none⟩) 1 1, .bool false, .slice none 0 0, .bool false, .slice none 0 0]⟩, iP 0, iP 0], 8,
   gB ++ [(6, .cells true 4 [iP 5, iP 5, iP 1, iP 5, iP 5, iP 1]),
    (7, .cells true 0 [iP 1, iP 1, iP 1])],
   [],
   .tuple ⟨[iP 2, iP 0]⟩⟩
theorem pb408_ok : pb408.okS EE.G = true := by kernel_rfl
theorem pb408_run : evT EE paT 1000000000 (.call pb408.f pb408.args) pb408.heap (keptK pb408) = some (.bool true) := by kernel_rfl
theorem pb408_h : pb408.holds EE := ent_run envOk paT_holds _ _ pb408_ok pb408_run
-- decani/office.Chief, 15685 steps
noncomputable def pb429 : Ent :=
  ⟨14, [.agg ⟨[iP 6, iP 0, .slice (some ⟨6, 0, none⟩) 3 18446744073709551616, .slice (some ⟨7, 0, none⟩) 1 1, .bool false, .slice none 0 0, .bool false, .slice none 0 0]⟩, iP 0, iP 3], 8,
   gB ++ [(6, .cells true 4 [iP 1, iP 1, iP 1, iP 1, iP 1, iP 1, iP 1, iP 1, iP 1]),
    (7, .cells true 0 [iP 1, iP 1, iP 1])],
   [.cells true 2 [iP 2]],
   .tuple ⟨[.slice (some ⟨8, 0, none⟩) 1 18446744073709551616, iP 0]⟩⟩
theorem pb429_ok : pb429.okS EE.G = true := by kernel_rfl
theorem pb429_run : evT EE paT 1000000000 (.call pb429.f pb429.args) pb429.heap (keptK pb429) = some (.bool true) := by kernel_rfl
theorem pb429_h : pb429.holds EE := ent_run envOk paT_holds _ _ pb429_ok pb429_run
-- decani/office.Chief, 15597 steps
noncomputable def pb450 : Ent :=
  ⟨14, [.agg ⟨[iP 6, iP 0, .slice (some ⟨6, 0, none⟩) 3 18446744073709551616, .slice (some ⟨7, 0, none⟩) 1 1, .bool false, .slice none 0 0, .bool false, .slice none 0 0]⟩, iP 0, iP 4], 8,
   gB ++ [(6, .cells true 4 [iP 4, iP 4, iP 1, iP 4, iP 4, iP 1, iP 4, iP 4, iP 1]),
    (7, .cells true 0 [iP 1, iP 1, iP 1])],
   [.cells true 2 [iP 0]],
   .tuple ⟨[.slice (some ⟨8, 0, none⟩) 1 18446744073709551616, iP 0]⟩⟩
theorem pb450_ok : pb450.okS EE.G = true := by kernel_rfl
theorem pb450_run : evT EE paT 1000000000 (.call pb450.f pb450.args) pb450.heap (keptK pb450) = some (.bool true) := by kernel_rfl
theorem pb450_h : pb450.holds EE := ent_run envOk paT_holds _ _ pb450_ok pb450_run
-- decani/office.Chief, 19661 steps
noncomputable def pb471 : Ent :=
  ⟨14, [.agg ⟨[iP 6, iP 0, .slice (some ⟨6, 0, none⟩) 4 18446744073709551616, .slice (some ⟨7, 0, none⟩) 1 1, .bool false, .slice none 0 0, .bool false, .slice none 0 0]⟩, iP 0, iP 2], 8,
   gB ++ [(6, .cells true 4 [iP 0, iP 0, iP 1, iP 0, iP 0, iP 1, iP 0, iP 0, iP 1, iP 0, iP 0, iP 1]),
    (7, .cells true 0 [iP 1, iP 1, iP 1])],
   [.cells true 2 [iP 2]],
   .tuple ⟨[.slice (some ⟨8, 0, none⟩) 1 18446744073709551616, iP 0]⟩⟩
theorem pb471_ok : pb471.okS EE.G = true := by kernel_rfl
theorem pb471_run : evT EE paT 1000000000 (.call pb471.f pb471.args) pb471.heap (keptK pb471) = some (.bool true) := by kernel_rfl
theorem pb471_h : pb471.holds EE := ent_run envOk paT_holds _ _ pb471_ok pb471_run
-- decani/office.Chief, 19661 steps
noncomputable def pb492 : Ent :=
  ⟨14, [.agg ⟨[iP 6, iP 0, .slice (some ⟨6, 0, none⟩) 4 18446744073709551616, .slice (some ⟨7, 0, none⟩) 1 1, .bool false, .slice none 0 0, .bool false, .slice none 0 0]⟩, iP 0, iP 3], 8,
   gB ++ [(6, .cells true 4 [iP 2, iP 2, iP 1, iP 2, iP 2, iP 1, iP 2, iP 2, iP 1, iP 2, iP 2, iP 1]),
    (7, .cells true 0 [iP 1, iP 1, iP 1])],
   [.cells true 2 [iP 1]],
   .tuple ⟨[.slice (some ⟨8, 0, none⟩) 1 18446744073709551616, iP 0]⟩⟩
theorem pb492_ok : pb492.okS EE.G = true := by kernel_rfl
theorem pb492_run : evT EE paT 1000000000 (.call pb492.f pb492.args) pb492.heap (keptK pb492) = some (.bool true) := by kernel_rfl
theorem pb492_h : pb492.holds EE := ent_run envOk paT_holds _ _ pb492_ok pb492_run
-- decani/office.Falls, 19180 steps
noncomputable def pb513 : Ent :=
  ⟨9, [.agg ⟨[iP 6, iP 0, .slice (some ⟨6, 0, none⟩) 4 18446744073709551616, .slice (some ⟨7, 0, none⟩) 1 1, .bool false, .slice none 0 0, .bool false, .slice none 0 0]⟩, iP 0, iP 1], 8,
   gB ++ [(6, .cells true 4 [iP 4, iP 4, iP 1, iP 4, iP 4, iP 1, iP 4, iP 4, iP 1, iP 4, iP 4, iP 1]),
    (7, .cells true 0 [iP 1, iP 1, iP 1])],
   [],
   .tuple ⟨[.agg ⟨[iP 5, iP 5]⟩, iP 0]⟩⟩
theorem pb513_ok : pb513.okS EE.G = true := by kernel_rfl
theorem pb513_run : evT EE paT 1000000000 (.call pb513.f pb513.args) pb513.heap (keptK pb513) = some (.bool true) := by kernel_rfl
theorem pb513_h : pb513.holds EE := ent_run envOk paT_holds _ _ pb513_ok pb513_run
-- decani/office.Kept, 6927 steps
noncomputable def pb534 : Ent :=
  ⟨11, [.agg ⟨[iP 4, iP 0, .slice (some ⟨6, 0, none⟩) 1 18446744073709551616, .slice (some ⟨7, 0, none⟩) 1 1, .bool false, .slice none 0 0, .bool false, .slice none 0 0]⟩, iP 0, iP 0], 8,
   gB ++ [(6, .cells true 4 [iP 0, iP 0, iP 1]),
    (7, .cells true 0 [iP 1, iP 1, iP 1])],
   [],
   .tuple ⟨[iP 2, iP 0]⟩⟩
theorem pb534_ok : pb534.okS EE.G = true := by kernel_rfl
theorem pb534_run : evT EE paT 1000000000 (.call pb534.f pb534.args) pb534.heap (keptK pb534) = some (.bool true) := by kernel_rfl
theorem pb534_h : pb534.holds EE := ent_run envOk paT_holds _ _ pb534_ok pb534_run
-- decani/office.Chief, 5747 steps
noncomputable def pb557 : Ent :=
  ⟨14, [.agg ⟨[iP 3, iP 0, .slice (some ⟨6, 0, none⟩) 1 18446744073709551616, .slice (some ⟨7, 0, none⟩) 1 1, .bool false, .slice none 0 0, .bool false, .slice none 0 0]⟩, iP 0, iP 0], 8,
   gB ++ [(6, .cells true 4 [iP 0, iP 0, iP 1]),
    (7, .cells true 0 [iP 1, iP 1, iP 1])],
   [.cells true 2 [iP 0]],
   .tuple ⟨[.slice (some ⟨8, 0, none⟩) 1 18446744073709551616, iP 0]⟩⟩
theorem pb557_ok : pb557.okS EE.G = true := by kernel_rfl
theorem pb557_run : evT EE paT 1000000000 (.call pb557.f pb557.args) pb557.heap (keptK pb557) = some (.bool true) := by kernel_rfl
theorem pb557_h : pb557.holds EE := ent_run envOk paT_holds _ _ pb557_ok pb557_run
end Go.Proofs.YtmjpnohpmfmdlaaGreatDoor
