/- Known calls, part 3: what single calls hand back, at small heaps, by the kernel's own run of the evaluator. No conditions. -/
import Derived.Test.YtmjpnohpmfmdlaaGreatDoorPAT
set_option linter.all false
namespace Go.Proofs.YtmjpnohpmfmdlaaGreatDoor
open Go.Ai
set_option maxRecDepth 1000000
-- decani/office.Falls, 8633 steps
noncomputable def pb3 : Ent :=
  ⟨9, [.agg ⟨[iP 1, iP 0, .slice (some ⟨6, 0, none⟩) 4 18446744073709551616, .slice (some ⟨7, 0, none⟩) 1 1, .bool false, .slice none 0 0, .bool false, .slice none 0 0]⟩, iP 0, iP 0], 8,
   gB ++ [(6, .cells true 4 [iP 0, iP 0, iP 1, iP 0, iP 0, iP 1, iP 0, iP 0, iP 1, iP 0, iP 0, iP 1]),
    (7, .cells true 0 [iP 1, iP 1, iP 1])],
   [],
   .tuple ⟨[.agg ⟨[iP 0, iP 0]⟩, iP 0]⟩⟩
theorem pb3_ok : pb3.okS EE.G = true := by kernel_rfl
theorem pb3_run : evT EE paT 1000000000 (.call pb3.f pb3.args) pb3.heap (keptK pb3) = some (.bool true) := by kernel_rfl
theorem pb3_h : pb3.holds EE := ent_run envOk paT_holds _ _ pb3_ok pb3_run
-- decani/office.Kept, 8440 steps
noncomputable def pb24 : Ent :=
  ⟨11, [.agg ⟨[iP 2, iP 0, .slice (some ⟨6, 0, none⟩) 3 18446744073709551616, .slice (some ⟨7, 0, none⟩) 1 1, .bool false, .slice none 0 0, .bool false, .slice none 0 0]⟩, iP 0, iP 1], 8,
   gB ++ [(6, .cells true 4 [iP 1, iP 1, iP 1, iP 1, iP 1, iP 1, iP 1, iP 1, iP 1]),
    (7, .cells true 0 [iP 1, iP 1, iP 1])],
   [],
   .tuple ⟨[iP 0, iP 0]⟩⟩
theorem pb24_ok : pb24.okS EE.G = true := by kernel_rfl
theorem pb24_run : evT EE paT 1000000000 (.call pb24.f pb24.args) pb24.heap (keptK pb24) = some (.bool true) := by kernel_rfl
theorem pb24_h : pb24.holds EE := ent_run envOk paT_holds _ _ pb24_ok pb24_run
-- decani/office.Kept, 10412 steps
noncomputable def pb45 : Ent :=
  ⟨11, [.agg ⟨[iP 2, iP 0, .slice (some ⟨6, 0, none⟩) 4 18446744073709551616, .slice (some ⟨7, 0, none⟩) 1 1, .bool false, .slice none 0 0, .bool false, .slice none 0 0]⟩, iP 0, iP 3], 8,
   gB ++ [(6, .cells true 4 [iP 1, iP 1, iP 1, iP 1, iP 1, iP 1, iP 1, iP 1, iP 1, iP 1, iP 1, iP 1]),
    (7, .cells true 0 [iP 1, iP 1, iP 1])],
   [],
   .tuple ⟨[iP 0, iP 0]⟩⟩
theorem pb45_ok : pb45.okS EE.G = true := by kernel_rfl
theorem pb45_run : evT EE paT 1000000000 (.call pb45.f pb45.args) pb45.heap (keptK pb45) = some (.bool true) := by kernel_rfl
theorem pb45_h : pb45.holds EE := ent_run envOk paT_holds _ _ pb45_ok pb45_run
-- decani/office.Falls, 10898 steps
noncomputable def pb66 : Ent :=
  ⟨9, [.agg ⟨[iP 3, iP 0, .slice (some ⟨6, 0, none⟩) 3 18446744073709551616, .slice (some ⟨7, 0, none⟩) 1 1, .bool false, .slice none 0 0, .bool false, .slice none 0 0]⟩, iP 0, iP 1], 8,
   gB ++ [(6, .cells true 4 [iP 0, iP 0, iP 1, iP 0, iP 0, iP 1, iP 0, iP 0, iP 1]),
    (7, .cells true 0 [iP 1, iP 1, iP 1])],
   [],
   .tuple ⟨[.agg ⟨[iP 1, iP 1]⟩, iP 0]⟩⟩
theorem pb66_ok : pb66.okS EE.G = true := by kernel_rfl
theorem pb66_run : evT EE paT 1000000000 (.call pb66.f pb66.args) pb66.heap (keptK pb66) = some (.bool true) := by kernel_rfl
theorem pb66_h : pb66.holds EE := ent_run envOk paT_holds _ _ pb66_ok pb66_run
-- decani/office.Falls, 14171 steps
noncomputable def pb87 : Ent :=
  ⟨9, [.agg ⟨[iP 3, iP 0, .slice (some ⟨6, 0, none⟩) 4 18446744073709551616, .slice (some ⟨7, 0, none⟩) 1 1, .bool false, .slice none 0 0, .bool false, .slice none 0 0]⟩, iP 0, iP 0], 8,
   gB ++ [(6, .cells true 4 [iP 0, iP 0, iP 1, iP 0, iP 0, iP 1, iP 0, iP 0, iP 1, iP 0, iP 0, iP 1]),
    (7, .cells true 0 [iP 1, iP 1, iP 1])],
   [],
   .tuple ⟨[.agg ⟨[iP 0, iP 0]⟩, iP 0]⟩⟩
theorem pb87_ok : pb87.okS EE.G = true := by kernel_rfl
theorem pb87_run : evT EE paT 1000000000 (.call pb87.f pb87.args) pb87.heap (keptK pb87) = some (.bool true) := by kernel_rfl
theorem pb87_h : pb87.holds EE := ent_run envOk paT_holds _ _ pb87_ok pb87_run
-- decani/office.Falls, 12351 steps
noncomputable def pb108 : Ent :=
  ⟨9, [.agg ⟨[iP 3, iP 0, .slice (some ⟨6, 0, none⟩) 4 18446744073709551616, .slice (some ⟨7, 0, none⟩) 1 1, .bool false, .slice none 0 0, .bool false, .slice none 0 0]⟩, iP 0, iP 0], 8,
   gB ++ [(6, .cells true 4 [iP 2, iP 2, iP 1, iP 2, iP 2, iP 1, iP 2, iP 2, iP 1, iP 2, iP 2, iP 1]),
    (7, .cells true 0 [iP 1, iP 1, iP 1])],
   [],
   .tuple ⟨[.agg ⟨[iP 2, iP 2]⟩, iP 0]⟩⟩
theorem pb108_ok : pb108.okS EE.G = true := by kernel_rfl
theorem pb108_run : evT EE paT 1000000000 (.call pb108.f pb108.args) pb108.heap (keptK pb108) = some (.bool true) := by kernel_rfl
theorem pb108_h : pb108.holds EE := ent_run envOk paT_holds _ _ pb108_ok pb108_run
-- decani/office.Falls, 9500 steps
noncomputable def pb129 : Ent :=
  ⟨9, [.agg ⟨[iP 4, iP 0, .slice (some ⟨6, 0, none⟩) 2 18446744073709551616, .slice (some ⟨7, 0, none⟩) 1 1, .bool false, .slice none 0 0, .bool false, .slice none 0 0]⟩, iP 0, iP 0], 8,
   gB ++ [(6, .cells true 4 [iP 1, iP 1, iP 1, iP 1, iP 1, iP 1]),
    (7, .cells true 0 [iP 1, iP 1, iP 1])],
   [],
   .tuple ⟨[.agg ⟨[iP 1, iP 1]⟩, iP 0]⟩⟩
theorem pb129_ok : pb129.okS EE.G = true := by kernel_rfl
theorem pb129_run : evT EE paT 1000000000 (.call pb129.f pb129.args) pb129.heap (keptK pb129) = some (.bool true) := by kernel_rfl
theorem pb129_h : pb129.holds EE := ent_run envOk paT_holds _ _ pb129_ok pb129_run
-- decani/office.Kept, 12432 steps
noncomputable def pb150 : Ent :=
  ⟨11, [.agg ⟨[iP 4, iP 0, .slice (some ⟨6, 0, none⟩) 3 18446744073709551616, .slice (some ⟨7, 0, none⟩) 1 1, .bool false, .slice none 0 0, .bool false, .slice none 0 0]⟩, iP 0, iP 1], 8,
   gB ++ [(6, .cells true 4 [iP 0, iP 0, iP 1, iP 0, iP 0, iP 1, iP 0, iP 0, iP 1]),
    (7, .cells true 0 [iP 1, iP 1, iP 1])],
   [],
   .tuple ⟨[iP 2, iP 0]⟩⟩
theorem pb150_ok : pb150.okS EE.G = true := by kernel_rfl
theorem pb150_run : evT EE paT 1000000000 (.call pb150.f pb150.args) pb150.heap (keptK pb150) = some (.bool true) := by kernel_rfl
theorem pb150_h : pb150.holds EE := ent_run envOk paT_holds _ _ pb150_ok pb150_run
-- decani/office.Kept, 12452 steps
noncomputable def pb171 : Ent :=
  ⟨11, [.agg ⟨[iP 4, iP 0, .slice (some ⟨6, 0, none⟩) 3 18446744073709551616, .slice (some ⟨7, 0, none⟩) 1 1, .bool false, .slice none 0 0, .bool false, .slice none 0 0]⟩, iP 0, iP 2], 8,
   gB ++ [(6, .cells true 4 [iP 2, iP 2, iP 1, iP 2, iP 2, iP 1, iP 2, iP 2, iP 1]),
    (7, .cells true 0 [iP 1, iP 1, iP 1])],
   [],
   .tuple ⟨[iP 0, iP 0]⟩⟩
theorem pb171_ok : pb171.okS EE.G = true := by kernel_rfl
theorem pb171_run : evT EE paT 1000000000 (.call pb171.f pb171.args) pb171.heap (keptK pb171) = some (.bool true) := by kernel_rfl
theorem pb171_h : pb171.holds EE := ent_run envOk paT_holds _ _ pb171_ok pb171_run
-- decani/office.Kept, 15944 steps
noncomputable def pb192 : Ent :=
  ⟨11, [.agg ⟨[iP 4, iP 0, .slice (some ⟨6, 0, none⟩) 4 18446744073709551616, .slice (some ⟨7, 0, none⟩) 1 1, .bool false, .slice none 0 0, .bool false, .slice none 0 0]⟩, iP 0, iP 0], 8,
   gB ++ [(6, .cells true 4 [iP 1, iP 1, iP 1, iP 1, iP 1, iP 1, iP 1, iP 1, iP 1, iP 1, iP 1, iP 1]),
    (7, .cells true 0 [iP 1, iP 1, iP 1])],
   [],
   .tuple ⟨[iP 2, iP 0]⟩⟩
theorem pb192_ok : pb192.okS EE.G = true := by kernel_rfl
theorem pb192_run : evT EE paT 1000000000 (.call pb192.f pb192.args) pb192.heap (keptK pb192) = some (.bool true) := by kernel_rfl
theorem pb192_h : pb192.holds EE := ent_run envOk paT_holds _ _ pb192_ok pb192_run
-- decani/office.Kept, 14124 steps
noncomputable def pb213 : Ent :=
  ⟨11, [.agg ⟨[iP 4, iP 0, .slice (some ⟨6, 0, none⟩) 4 18446744073709551616, .slice (some ⟨7, 0, none⟩) 1 1, .bool false, .slice none 0 0, .bool false, .slice none 0 0]⟩, iP 0, iP 0], 8,
   gB ++ [(6, .cells true 4 [iP 3, iP 3, iP 1, iP 3, iP 3, iP 1, iP 3, iP 3, iP 1, iP 3, iP 3, iP 1]),
    (7, .cells true 0 [iP 1, iP 1, iP 1])],
   [],
   .tuple ⟨[iP 2, iP 0]⟩⟩
theorem pb213_ok : pb213.okS EE.G = true := by kernel_rfl
theorem pb213_run : evT EE paT 1000000000 (.call pb213.f pb213.args) pb213.heap (keptK pb213) = some (.bool true) := by kernel_rfl
theorem pb213_h : pb213.holds EE := ent_run envOk paT_holds _ _ pb213_ok pb213_run
-- decani/office.Kept, 8375 steps
noncomputable def pb234 : Ent :=
  ⟨11, [.agg ⟨[iP 5, iP 0, .slice (some ⟨6, 0, none⟩) 1 18446744073709551616, .slice (some ⟨7, 0, none⟩) 1 1, .bool false, .slice none 0 0, .bool false, .slice none 0 0]⟩, iP 0, iP 0], 8,
   gB ++ [(6, .cells true 4 [iP 4, iP 4, iP 1]),
    (7, .cells true 0 [iP 1, iP 1, iP 1])],
   [],
   .tuple ⟨[iP 2, iP 0]⟩⟩
theorem pb234_ok : pb234.okS EE.G = true := by kernel_rfl
theorem pb234_run : evT EE paT 1000000000 (.call pb234.f pb234.args) pb234.heap (keptK pb234) = some (.bool true) := by kernel_rfl
theorem pb234_h : pb234.holds EE := ent_run envOk paT_holds _ _ pb234_ok pb234_run
-- decani/office.Kept, 10948 steps
noncomputable def pb255 : Ent :=
  ⟨11, [.agg ⟨[iP 5, iP 0, .slice (some ⟨6, 0, none⟩) 2 18446744073709551616, .slice (some ⟨7, 0, none⟩) 1 1, .bool false, .slice none 0 0, .bool false, .slice none 0 0]⟩, iP 0, iP 0], 8,
   gB ++ [(6, .cells true 4 [iP 3, iP 3, iP 1, iP 3, iP 3, iP 1]),
    (7, .cells true 0 [iP 1, iP 1, iP 1])],
   [],
   .tuple ⟨[iP 2, iP 0]⟩⟩
theorem pb255_ok : pb255.okS EE.G = true := by kernel_rfl
theorem pb255_run : evT EE paT 1000000000 (.call pb255.f pb255.args) pb255.heap (keptK pb255) = some (.bool true) := by kernel_rfl
theorem pb255_h : pb255.holds EE := ent_run envOk paT_holds _ _ pb255_ok pb255_run
-- decani/office.Chief, 14065 steps
noncomputable def pb276 : Ent :=
  ⟨14, [.agg ⟨[iP 5, iP 0, .slice (some ⟨6, 0, none⟩) 3 18446744073709551616, .slice (some ⟨7, 0, none⟩) 1 1, .bool false, .slice none 0 0, .bool false, .slice none 0 0]⟩, iP 0, iP 1], 8,
   gB ++ [(6, .cells true 4 [iP 1, iP 1, iP 1, iP 1, iP 1, iP 1, iP 1, iP 1, iP 1]),
    (7, .cells true 0 [iP 1, iP 1, iP 1])],
   [.cells true 2 [iP 0]],
   .tuple ⟨[.slice (some ⟨8, 0, none⟩) 1 18446744073709551616, iP 0]⟩⟩
theorem pb276_ok : pb276.okS EE.G = true := by kernel_rfl
theorem pb276_run : evT EE paT 1000000000 (.call pb276.f pb276.args) pb276.heap (keptK pb276) = some (.bool true) := by kernel_rfl
theorem pb276_h : pb276.holds EE := ent_run envOk paT_holds _ _ pb276_ok pb276_run
-- decani/office.Kept, 14123 steps
noncomputable def pb297 : Ent :=
  ⟨11, [.agg ⟨[iP 5, iP 0, .slice (some ⟨6, 0, none⟩) 3 18446744073709551616, .slice (some ⟨7, 0, none⟩) 1 1, .bool false, .slice none 0 0, .bool false, .slice none 0 0]⟩, iP 0, iP 2], 8,
   gB ++ [(6, .cells true 4 [iP 3, iP 3, iP 1, iP 3, iP 3, iP 1, iP 3, iP 3, iP 1]),
    (7, .cells true 0 [iP 1, iP 1, iP 1])],
   [],
   .tuple ⟨[iP 0, iP 0]⟩⟩
theorem pb297_ok : pb297.okS EE.G = true := by kernel_rfl
theorem pb297_run : evT EE paT 1000000000 (.call pb297.f pb297.args) pb297.heap (keptK pb297) = some (.bool true) := by kernel_rfl
theorem pb297_h : pb297.holds EE := ent_run envOk paT_holds _ _ pb297_ok pb297_run
-- decani/office.Kept, 17840 steps
noncomputable def pb318 : Ent :=
  ⟨11, [.agg ⟨[iP 5, iP 0, .slice (some ⟨6, 0, none⟩) 4 18446744073709551616, .slice (some ⟨7, 0, none⟩) 1 1, .bool false, .slice none 0 0, .bool false, .slice none 0 0]⟩, iP 0, iP 0], 8,
   gB ++ [(6, .cells true 4 [iP 1, iP 1, iP 1, iP 1, iP 1, iP 1, iP 1, iP 1, iP 1, iP 1, iP 1, iP 1]),
    (7, .cells true 0 [iP 1, iP 1, iP 1])],
   [],
   .tuple ⟨[iP 2, iP 0]⟩⟩
theorem pb318_ok : pb318.okS EE.G = true := by kernel_rfl
theorem pb318_run : evT EE paT 1000000000 (.call pb318.f pb318.args) pb318.heap (keptK pb318) = some (.bool true) := by kernel_rfl
theorem pb318_h : pb318.holds EE := ent_run envOk paT_holds _ _ pb318_ok pb318_run
-- decani/office.Kept, 17911 steps
noncomputable def pb339 : Ent :=
  ⟨11, [.agg ⟨[iP 5, iP 0, .slice (some ⟨6, 0, none⟩) 4 18446744073709551616, .slice (some ⟨7, 0, none⟩) 1 1, .bool false, .slice none 0 0, .bool false, .slice none 0 0]⟩, iP 0, iP 3], 8,
   gB ++ [(6, .cells true 4 [iP 2, iP 2, iP 1, iP 2, iP 2, iP 1, iP 2, iP 2, iP 1, iP 2, iP 2, iP 1]),
    (7, .cells true 0 [iP 1, iP 1, iP 1])],
   [],
   .tuple ⟨[iP 0, iP 0]⟩⟩
theorem pb339_ok : pb339.okS EE.G = true := by kernel_rfl
theorem pb339_run : evT EE paT 1000000000 (.call pb339.f pb339.args) pb339.heap (keptK pb339) = some (.bool true) := by kernel_rfl
theorem pb339_h : pb339.holds EE := ent_run envOk paT_holds _ _ pb339_ok pb339_run
-- decani/office.Kept, 9415 steps
noncomputable def pb360 : Ent :=
  ⟨11, [.agg ⟨[iP 6, iP 0, .slice (some ⟨6, 0, none⟩) 1 18446744073709551616, .slice (some ⟨7, 0, none⟩) 1 1, .bool false, .slice none 0 0, .bool false, .slice none 0 0]⟩, iP 0, iP 0], 8,
   gB ++ [(6, .cells true 4 [iP 0, iP 0, iP 1]),
    (7, .cells true 0 [iP 1, iP 1, iP 1])],
   [],
   .tuple ⟨[iP 2, iP 0]⟩⟩
theorem pb360_ok : pb360.okS EE.G = true := by kernel_rfl
theorem pb360_run : evT EE paT 1000000000 (.call pb360.f pb360.args) pb360.heap (keptK pb360) = some (.bool true) := by kernel_rfl
theorem pb360_h : pb360.holds EE := ent_run envOk paT_holds _ _ pb360_ok pb360_run
-- decani/office.Kept, 12278 steps
noncomputable def pb381 : Ent :=
  ⟨11, [.agg ⟨[iP 6, iP 0, .slice (some ⟨6, 0, none⟩) 2 18446744073709551616, .slice (some ⟨7, 0, none⟩) 1 1, .bool false, .slice none 0 0, .bool false, .slice none 0 0]⟩, iP 0, iP 1], 8,
   gB ++ [(6, .cells true 4 [iP 0, iP 0, iP 1, iP 0, iP 0, iP 1]),
    (7, .cells true 0 [iP 1, iP 1, iP 1])],
   [],
   .tuple ⟨[iP 2, iP 0]⟩⟩
theorem pb381_ok : pb381.okS EE.G = true := by kernel_rfl
theorem pb381_run : evT EE paT 1000000000 (.call pb381.f pb381.args) pb381.heap (keptK pb381) = some (.bool true) := by kernel_rfl
theorem pb381_h : pb381.holds EE := ent_run envOk paT_holds _ _ pb381_ok pb381_run
-- decani/office.Kept, 12431 steps
noncomputable def pb402 : Ent :=
  ⟨11, [.agg ⟨[iP 6, iP 0, .slice (some ⟨6, 0, none⟩) 2 18446744073709551616, .slice (some ⟨7, 0, none⟩) 1 1, .bool false, .slice none 0 0, .bool false, .slice none 0 0]⟩, iP 0, iP 0], 8,
   gB ++ [(6, .cells true 4 [iP 4, iP 4, iP 1, iP 4, iP 4, iP 1]),
    (7, .cells true 0 [iP 1, iP 1, iP 1])],
   [],
   .tuple ⟨[iP 2, iP 0]⟩⟩
theorem pb402_ok : pb402.okS EE.G = true := by kernel_rfl
theorem pb402_run : evT EE paT 1000000000 (.call pb402.f pb402.args) pb402.heap (keptK pb402) = some (.bool true) := by kernel_rfl
theorem pb402_h : pb402.holds EE := ent_run envOk paT_holds _ _ pb402_ok pb402_run
-- decani/office.Chief, 15685 steps
noncomputable def pb423 : Ent :=
  ⟨14, [.agg ⟨[iP 6, iP 0, .slice (some ⟨6, 0, none⟩) 3 18446744073709551616, .slice (some ⟨7, 0, none⟩) 1 1, .bool false, .slice none 0 0, .bool false, .slice none 0 0]⟩, iP 0, iP 1], 8,
   gB ++ [(6, .cells true 4 [iP 1, iP 1, iP 1, iP 1, iP 1, iP 1, iP 1, iP 1, iP 1]),
    (7, .cells true 0 [iP 1, iP 1, iP 1])],
   [.cells true 2 [iP 0]],
   .tuple ⟨[.slice (some ⟨8, 0, none⟩) 1 18446744073709551616, iP 0]⟩⟩
theorem pb423_ok : pb423.okS EE.G = true := by kernel_rfl
theorem pb423_run : evT EE paT 1000000000 (.call pb423.f pb423.args) pb423.heap (keptK pb423) = some (.bool true) := by kernel_rfl
theorem pb423_h : pb423.holds EE := ent_run envOk paT_holds _ _ pb423_ok pb423_run
-- decani/office.Chief, 15685 steps
noncomputable def pb444 : Ent :=
  ⟨14, [.agg ⟨[iP 6, iP 0, .slice (some ⟨6, 0, none⟩) 3 18446744073709551616, .slice (some ⟨7, 0, none⟩) 1 1, .bool false, .slice none 0 0, .bool false, .slice none 0 0]⟩, iP 0, iP 4], 8,
   gB ++ [(6, .cells true 4 [iP 3, iP 3, iP 1, iP 3, iP 3, iP 1, iP 3, iP 3, iP 1]),
    (7, .cells true 0 [iP 1, iP 1, iP 1])],
   [.cells true 2 [iP 1]],
   .tuple ⟨[.slice (some ⟨8, 0, none⟩) 1 18446744073709551616, iP 0]⟩⟩
theorem pb444_ok : pb444.okS EE.G = true := by kernel_rfl
theorem pb444_run : evT EE paT 1000000000 (.call pb444.f pb444.args) pb444.heap (keptK pb444) = some (.bool true) := by kernel_rfl
theorem pb444_h : pb444.holds EE := ent_run envOk paT_holds _ _ pb444_ok pb444_run
-- decani/office.Chief, 19661 steps
noncomputable def pb465 : Ent :=
  ⟨14, [.agg ⟨[iP 6, iP 0, .slice (some ⟨6, 0, none⟩) 4 18446744073709551616, .slice (some ⟨7, 0, none⟩) 1 1, .bool false, .slice none 0 0, .bool false, .slice none 0 0]⟩, iP 0, iP 0], 8,
   gB ++ [(6, .cells true 4 [iP 0, iP 0, iP 1, iP 0, iP 0, iP 1, iP 0, iP 0, iP 1, iP 0, iP 0, iP 1]),
    (7, .cells true 0 [iP 1, iP 1, iP 1])],
   [.cells true 2 [iP 0]],
   .tuple ⟨[.slice (some ⟨8, 0, none⟩) 1 18446744073709551616, iP 0]⟩⟩
theorem pb465_ok : pb465.okS EE.G = true := by kernel_rfl
theorem pb465_run : evT EE paT 1000000000 (.call pb465.f pb465.args) pb465.heap (keptK pb465) = some (.bool true) := by kernel_rfl
theorem pb465_h : pb465.holds EE := ent_run envOk paT_holds _ _ pb465_ok pb465_run
-- decani/office.Chief, 19661 steps
noncomputable def pb486 : Ent :=
  ⟨14, [.agg ⟨[iP 6, iP 0, .slice (some ⟨6, 0, none⟩) 4 18446744073709551616, .slice (some ⟨7, 0, none⟩) 1 1, .bool false, .slice none 0 0, .bool false, .slice none 0 0]⟩, iP 0, iP 4], 8,
   gB ++ [(6, .cells true 4 [iP 1, iP 1, iP 1, iP 1, iP 1, iP 1, iP 1, iP 1, iP 1, iP 1, iP 1, iP 1]),
    (7, .cells true 0 [iP 1, iP 1, iP 1])],
   [.cells true 2 [iP 3]],
   .tuple ⟨[.slice (some ⟨8, 0, none⟩) 1 18446744073709551616, iP 0]⟩⟩
theorem pb486_ok : pb486.okS EE.G = true := by kernel_rfl
theorem pb486_run : evT EE paT 1000000000 (.call pb486.f pb486.args) pb486.heap (keptK pb486) = some (.bool true) := by kernel_rfl
theorem pb486_h : pb486.holds EE := ent_run envOk paT_holds _ _ pb486_ok pb486_run
-- decani/office.Chief, 19573 steps
noncomputable def pb507 : Ent :=
  ⟨14, [.agg ⟨[iP 6, iP 0, .slice (some ⟨6, 0, none⟩) 4 18446744073709551616, .slice (some ⟨7, 0, none⟩) 1 1, .bool false, .slice none 0 0, .bool false, .slice none 0 0]⟩, iP 0, iP 5], 8,
   gB ++ [(6, .cells true 4 [iP 3, iP 3, iP 1, iP 3, iP 3, iP 1, iP 3, iP 3, iP 1, iP 3, iP 3, iP 1]),
    (7, .cells true 0 [iP 1, iP 1, iP 1])],
   [.cells true 2 [iP 2]],
   .tuple ⟨[.slice (some ⟨8, 0, none⟩) 1 18446744073709551616, iP 0]⟩⟩
theorem pb507_ok : pb507.okS EE.G = true := by kernel_rfl
theorem pb507_run : evT EE paT 1000000000 (.call pb507.f pb507.args) pb507.heap (keptK pb507) = some (.bool true) := by kernel_rfl
theorem pb507_h : pb507.holds EE := ent_run envOk paT_holds _ _ pb507_ok pb507_run
-- decani/office.Kept, 17848 steps
noncomputable def pb528 : Ent :=
  ⟨11, [.agg ⟨[iP 6, iP 0, .slice (some ⟨6, 0, none⟩) 4 18446744073709551616, .slice (some ⟨7, 0, none⟩) 1 1, .bool false, .slice none 0 0, .bool false, .slice none 0 0]⟩, iP 0, iP 3], 8,
   gB ++ [(6, .cells true 4 [iP 5, iP 5, iP 1, iP 5, iP 5, iP 1, iP 5, iP 5, iP 1, iP 5, iP 5, iP 1]),
    (7, .cells true 0 [iP 1, iP 1, iP 1])],
   [],
   .tuple ⟨[iP 0, iP 0]⟩⟩
theorem pb528_ok : pb528.okS EE.G = true := by kernel_rfl
theorem pb528_run : evT EE paT 1000000000 (.call pb528.f pb528.args) pb528.heap (keptK pb528) = some (.bool true) := by kernel_rfl
theorem pb528_h : pb528.holds EE := ent_run envOk paT_holds _ _ pb528_ok pb528_run
-- decani/office.Kept, 4979 steps
noncomputable def pb566 : Ent :=
  ⟨11, [.agg ⟨[iP 1, iP 0, .slice (some ⟨6, 0, none⟩) 2 18446744073709551616, .slice (some ⟨7, 0, none⟩) 1 1, .bool false, .slice none 0 0, .bool false, .slice none 0 0]⟩, iP 0, iP 0], 8,
   gB ++ [(6, .cells true 4 [iP 0, iP 0, iP 1, iP 0, iP 0, iP 1]),
    (7, .cells true 0 [iP 1, iP 1, iP 1])],
   [],
   .tuple ⟨[iP 2, iP 0]⟩⟩
theorem pb566_ok : pb566.okS EE.G = true := by kernel_rfl
theorem pb566_run : evT EE paT 1000000000 (.call pb566.f pb566.args) pb566.heap (keptK pb566) = some (.bool true) := by kernel_rfl
theorem pb566_h : pb566.holds EE := ent_run envOk paT_holds _ _ pb566_ok pb566_run
-- decani/office.Falls, 4576 steps
noncomputable def pb567 : Ent :=
  ⟨9, [.agg ⟨[iP 2, iP 0, .slice (some ⟨6, 0, none⟩) 1 18446744073709551616, .slice (some ⟨7, 0, none⟩) 1 1, .bool false, .slice none 0 0, .bool false, .slice none 0 0]⟩, iP 0, iP 0], 8,
   gB ++ [(6, .cells true 4 [iP 1, iP 1, iP 1]),
    (7, .cells true 0 [iP 1, iP 1, iP 1])],
   [],
   .tuple ⟨[.agg ⟨[iP 1, iP 1]⟩, iP 0]⟩⟩
theorem pb567_ok : pb567.okS EE.G = true := by kernel_rfl
theorem pb567_run : evT EE paT 1000000000 (.call pb567.f pb567.args) pb567.heap (keptK pb567) = some (.bool true) := by kernel_rfl
theorem pb567_h : pb567.holds EE := ent_run envOk paT_holds _ _ pb567_ok pb567_run
end Go.Proofs.YtmjpnohpmfmdlaaGreatDoor
