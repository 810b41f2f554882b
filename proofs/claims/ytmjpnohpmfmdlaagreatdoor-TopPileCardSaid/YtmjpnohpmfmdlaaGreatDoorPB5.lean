/- Known calls, part 5: what single calls hand back, at small heaps, by the kernel's own run of the evaluator. No conditions. -/
import Derived.Test.YtmjpnohpmfmdlaaGreatDoorPAT
set_option linter.all false
namespace Go.Proofs.YtmjpnohpmfmdlaaGreatDoor
open Go.Ai
set_option maxRecDepth 1000000
-- decani/office.Chief, 8611 steps
noncomputable def pb5 : Ent :=
  ⟨14, [.agg ⟨[iP 1, iP 0, .slice (some ⟨6, 0, none⟩) 4 18446744073709551616, .slice (some ⟨7, 0, none⟩) 1 1, .bool false, .slice none 0 0, .bool false, .slice none 0 0]⟩, iP 0, iP 0], 8,
   gB ++ [(6, .cells true 4 [iP 0, iP 0, iP 1, iP 0, iP 0, iP 1, iP 0, iP 0, iP 1, iP 0, iP 0, iP 1]),
    (7, .cells true 0 [iP 1, iP 1, iP 1])],
   [.cells true 2 [iP 0]],
   .tuple ⟨[.slice (some ⟨8, 0, none⟩) 1 18446744073709551616, iP 0]⟩⟩
theorem pb5_ok : pb5.okS EE.G = true := by kernel_rfl
theorem pb5_run : evT EE paT 1000000000 (.call pb5.f pb5.args) pb5.heap (keptK pb5) = some (.bool true) := by kernel_rfl
theorem pb5_h : pb5.holds EE := ent_run envOk paT_holds _ _ pb5_ok pb5_run
-- decani/office.Kept, 8440 steps
noncomputable def pb26 : Ent :=
  ⟨11, [.agg ⟨[iP 2, iP 0, .slice (some ⟨6, 0, none⟩) 3 18446744073709551616, .slice (some ⟨7, 0, none⟩) 1 1, .bool false, .slice none 0 0, .bool false, .slice none 0 0]⟩, iP 0, iP 2], 8,
   gB ++ [(6, .cells true 4 [iP 1, iP 1, iP 1, iP 1, iP 1, iP 1, iP 1, iP 1, iP 1]),
    (7, .cells true 0 [iP 1, iP 1, iP 1])],
   [],
   .tuple ⟨[iP 0, iP 0]⟩⟩
theorem pb26_ok : pb26.okS EE.G = true := by kernel_rfl
theorem pb26_run : evT EE paT 1000000000 (.call pb26.f pb26.args) pb26.heap (keptK pb26) = some (.bool true) := by kernel_rfl
theorem pb26_h : pb26.holds EE := ent_run envOk paT_holds _ _ pb26_ok pb26_run
-- decani/office.Kept, 7931 steps
noncomputable def pb47 : Ent :=
  ⟨11, [.agg ⟨[iP 3, iP 0, .slice (some ⟨6, 0, none⟩) 2 18446744073709551616, .slice (some ⟨7, 0, none⟩) 1 1, .bool false, .slice none 0 0, .bool false, .slice none 0 0]⟩, iP 0, iP 0], 8,
   gB ++ [(6, .cells true 4 [iP 0, iP 0, iP 1, iP 0, iP 0, iP 1]),
    (7, .cells true 0 [iP 1, iP 1, iP 1])],
   [],
   .tuple ⟨[iP 2, iP 0]⟩⟩
theorem pb47_ok : pb47.okS EE.G = true := by kernel_rfl
theorem pb47_run : evT EE paT 1000000000 (.call pb47.f pb47.args) pb47.heap (keptK pb47) = some (.bool true) := by kernel_rfl
theorem pb47_h : pb47.holds EE := ent_run envOk paT_holds _ _ pb47_ok pb47_run
-- decani/office.Chief, 10825 steps
noncomputable def pb68 : Ent :=
  ⟨14, [.agg ⟨[iP 3, iP 0, .slice (some ⟨6, 0, none⟩) 3 18446744073709551616, .slice (some ⟨7, 0, none⟩) 1 1, .bool false, .slice none 0 0, .bool false, .slice none 0 0]⟩, iP 0, iP 1], 8,
   gB ++ [(6, .cells true 4 [iP 0, iP 0, iP 1, iP 0, iP 0, iP 1, iP 0, iP 0, iP 1]),
    (7, .cells true 0 [iP 1, iP 1, iP 1])],
   [.cells true 2 [iP 1]],
   .tuple ⟨[.slice (some ⟨8, 0, none⟩) 1 18446744073709551616, iP 0]⟩⟩
theorem pb68_ok : pb68.okS EE.G = true := by kernel_rfl
theorem pb68_run : evT EE paT 1000000000 (.call pb68.f pb68.args) pb68.heap (keptK pb68) = some (.bool true) := by kernel_rfl
theorem pb68_h : pb68.holds EE := ent_run envOk paT_holds _ _ pb68_ok pb68_run
-- decani/office.Chief, 14149 steps
noncomputable def pb89 : Ent :=
  ⟨14, [.agg ⟨[iP 3, iP 0, .slice (some ⟨6, 0, none⟩) 4 18446744073709551616, .slice (some ⟨7, 0, none⟩) 1 1, .bool false, .slice none 0 0, .bool false, .slice none 0 0]⟩, iP 0, iP 0], 8,
   gB ++ [(6, .cells true 4 [iP 0, iP 0, iP 1, iP 0, iP 0, iP 1, iP 0, iP 0, iP 1, iP 0, iP 0, iP 1]),
    (7, .cells true 0 [iP 1, iP 1, iP 1])],
   [.cells true 2 [iP 0]],
   .tuple ⟨[.slice (some ⟨8, 0, none⟩) 1 18446744073709551616, iP 0]⟩⟩
theorem pb89_ok : pb89.okS EE.G = true := by kernel_rfl
theorem pb89_run : evT EE paT 1000000000 (.call pb89.f pb89.args) pb89.heap (keptK pb89) = some (.bool true) := by kernel_rfl
theorem pb89_h : pb89.holds EE := ent_run envOk paT_holds _ _ pb89_ok pb89_run
-- decani/office.Chief, 12227 steps
noncomputable def pb110 : Ent :=
  ⟨14, [.agg ⟨[iP 3, iP 0, .slice (some ⟨6, 0, none⟩) 4 18446744073709551616, .slice (some ⟨7, 0, none⟩) 1 1, .bool false, .slice none 0 0, .bool false, .slice none 0 0]⟩, iP 0, iP 2], 8,
   gB ++ [(6, .cells true 4 [iP 2, iP 2, iP 1, iP 2, iP 2, iP 1, iP 2, iP 2, iP 1, iP 2, iP 2, iP 1]),
    (7, .cells true 0 [iP 1, iP 1, iP 1])],
   [.cells true 2 [iP 0]],
   .tuple ⟨[.slice (some ⟨8, 0, none⟩) 1 18446744073709551616, iP 0]⟩⟩
theorem pb110_ok : pb110.okS EE.G = true := by kernel_rfl
theorem pb110_run : evT EE paT 1000000000 (.call pb110.f pb110.args) pb110.heap (keptK pb110) = some (.bool true) := by kernel_rfl
theorem pb110_h : pb110.holds EE := ent_run envOk paT_holds _ _ pb110_ok pb110_run
-- decani/office.Chief, 9427 steps
noncomputable def pb131 : Ent :=
  ⟨14, [.agg ⟨[iP 4, iP 0, .slice (some ⟨6, 0, none⟩) 2 18446744073709551616, .slice (some ⟨7, 0, none⟩) 1 1, .bool false, .slice none 0 0, .bool false, .slice none 0 0]⟩, iP 0, iP 1], 8,
   gB ++ [(6, .cells true 4 [iP 1, iP 1, iP 1, iP 1, iP 1, iP 1]),
    (7, .cells true 0 [iP 1, iP 1, iP 1])],
   [.cells true 2 [iP 0]],
   .tuple ⟨[.slice (some ⟨8, 0, none⟩) 1 18446744073709551616, iP 0]⟩⟩
theorem pb131_ok : pb131.okS EE.G = true := by kernel_rfl
theorem pb131_run : evT EE paT 1000000000 (.call pb131.f pb131.args) pb131.heap (keptK pb131) = some (.bool true) := by kernel_rfl
theorem pb131_h : pb131.holds EE := ent_run envOk paT_holds _ _ pb131_ok pb131_run
-- decani/office.Falls, 12569 steps
noncomputable def pb152 : Ent :=
  ⟨9, [.agg ⟨[iP 4, iP 0, .slice (some ⟨6, 0, none⟩) 3 18446744073709551616, .slice (some ⟨7, 0, none⟩) 1 1, .bool false, .slice none 0 0, .bool false, .slice none 0 0]⟩, iP 0, iP 2], 8,
   gB ++ [(6, .cells true 4 [iP 0, iP 0, iP 1, iP 0, iP 0, iP 1, iP 0, iP 0, iP 1]),
    (7, .cells true 0 [iP 1, iP 1, iP 1])],
   [],
   .tuple ⟨[.agg ⟨[iP 2, iP 2]⟩, iP 0]⟩⟩
theorem pb152_ok : pb152.okS EE.G = true := by kernel_rfl
theorem pb152_run : evT EE paT 1000000000 (.call pb152.f pb152.args) pb152.heap (keptK pb152) = some (.bool true) := by kernel_rfl
theorem pb152_h : pb152.holds EE := ent_run envOk paT_holds _ _ pb152_ok pb152_run
-- decani/office.Kept, 11776 steps
noncomputable def pb173 : Ent :=
  ⟨11, [.agg ⟨[iP 4, iP 0, .slice (some ⟨6, 0, none⟩) 3 18446744073709551616, .slice (some ⟨7, 0, none⟩) 1 1, .bool false, .slice none 0 0, .bool false, .slice none 0 0]⟩, iP 0, iP 0], 8,
   gB ++ [(6, .cells true 4 [iP 3, iP 3, iP 1, iP 3, iP 3, iP 1, iP 3, iP 3, iP 1]),
    (7, .cells true 0 [iP 1, iP 1, iP 1])],
   [],
   .tuple ⟨[iP 2, iP 0]⟩⟩
theorem pb173_ok : pb173.okS EE.G = true := by kernel_rfl
theorem pb173_run : evT EE paT 1000000000 (.call pb173.f pb173.args) pb173.heap (keptK pb173) = some (.bool true) := by kernel_rfl
theorem pb173_h : pb173.holds EE := ent_run envOk paT_holds _ _ pb173_ok pb173_run
-- decani/office.Falls, 16081 steps
noncomputable def pb194 : Ent :=
  ⟨9, [.agg ⟨[iP 4, iP 0, .slice (some ⟨6, 0, none⟩) 4 18446744073709551616, .slice (some ⟨7, 0, none⟩) 1 1, .bool false, .slice none 0 0, .bool false, .slice none 0 0]⟩, iP 0, iP 1], 8,
   gB ++ [(6, .cells true 4 [iP 1, iP 1, iP 1, iP 1, iP 1, iP 1, iP 1, iP 1, iP 1, iP 1, iP 1, iP 1]),
    (7, .cells true 0 [iP 1, iP 1, iP 1])],
   [],
   .tuple ⟨[.agg ⟨[iP 2, iP 2]⟩, iP 0]⟩⟩
theorem pb194_ok : pb194.okS EE.G = true := by kernel_rfl
theorem pb194_run : evT EE paT 1000000000 (.call pb194.f pb194.args) pb194.heap (keptK pb194) = some (.bool true) := by kernel_rfl
theorem pb194_h : pb194.holds EE := ent_run envOk paT_holds _ _ pb194_ok pb194_run
-- decani/office.Falls, 14139 steps
noncomputable def pb215 : Ent :=
  ⟨9, [.agg ⟨[iP 4, iP 0, .slice (some ⟨6, 0, none⟩) 4 18446744073709551616, .slice (some ⟨7, 0, none⟩) 1 1, .bool false, .slice none 0 0, .bool false, .slice none 0 0]⟩, iP 0, iP 1], 8,
   gB ++ [(6, .cells true 4 [iP 3, iP 3, iP 1, iP 3, iP 3, iP 1, iP 3, iP 3, iP 1, iP 3, iP 3, iP 1]),
    (7, .cells true 0 [iP 1, iP 1, iP 1])],
   [],
   .tuple ⟨[.agg ⟨[iP 0, iP 0]⟩, iP 4]⟩⟩
theorem pb215_ok : pb215.okS EE.G = true := by kernel_rfl
theorem pb215_run : evT EE paT 1000000000 (.call pb215.f pb215.args) pb215.heap (keptK pb215) = some (.bool true) := by kernel_rfl
theorem pb215_h : pb215.holds EE := ent_run envOk paT_holds _ _ pb215_ok pb215_run
-- decani/office.Falls, 10881 steps
noncomputable def pb236 : Ent :=
  ⟨9, [.agg ⟨[iP 5, iP 0, .slice (some ⟨6, 0, none⟩) 2 18446744073709551616, .slice (some ⟨7, 0, none⟩) 1 1, .bool false, .slice none 0 0, .bool false, .slice none 0 0]⟩, iP 0, iP 0], 8,
   gB ++ [(6, .cells true 4 [iP 0, iP 0, iP 1, iP 0, iP 0, iP 1]),
    (7, .cells true 0 [iP 1, iP 1, iP 1])],
   [],
   .tuple ⟨[.agg ⟨[iP 0, iP 0]⟩, iP 0]⟩⟩
theorem pb236_ok : pb236.okS EE.G = true := by kernel_rfl
theorem pb236_run : evT EE paT 1000000000 (.call pb236.f pb236.args) pb236.heap (keptK pb236) = some (.bool true) := by kernel_rfl
theorem pb236_h : pb236.holds EE := ent_run envOk paT_holds _ _ pb236_ok pb236_run
-- decani/office.Falls, 11085 steps
noncomputable def pb257 : Ent :=
  ⟨9, [.agg ⟨[iP 5, iP 0, .slice (some ⟨6, 0, none⟩) 2 18446744073709551616, .slice (some ⟨7, 0, none⟩) 1 1, .bool false, .slice none 0 0, .bool false, .slice none 0 0]⟩, iP 0, iP 1], 8,
   gB ++ [(6, .cells true 4 [iP 3, iP 3, iP 1, iP 3, iP 3, iP 1]),
    (7, .cells true 0 [iP 1, iP 1, iP 1])],
   [],
   .tuple ⟨[.agg ⟨[iP 4, iP 4]⟩, iP 0]⟩⟩
theorem pb257_ok : pb257.okS EE.G = true := by kernel_rfl
theorem pb257_run : evT EE paT 1000000000 (.call pb257.f pb257.args) pb257.heap (keptK pb257) = some (.bool true) := by kernel_rfl
theorem pb257_h : pb257.holds EE := ent_run envOk paT_holds _ _ pb257_ok pb257_run
-- decani/office.Kept, 14103 steps
noncomputable def pb278 : Ent :=
  ⟨11, [.agg ⟨[iP 5, iP 0, .slice (some ⟨6, 0, none⟩) 3 18446744073709551616, .slice (some ⟨7, 0, none⟩) 1 1, .bool false, .slice none 0 0, .bool false, .slice none 0 0]⟩, iP 0, iP 1], 8,
   gB ++ [(6, .cells true 4 [iP 1, iP 1, iP 1, iP 1, iP 1, iP 1, iP 1, iP 1, iP 1]),
    (7, .cells true 0 [iP 1, iP 1, iP 1])],
   [],
   .tuple ⟨[iP 2, iP 0]⟩⟩
theorem pb278_ok : pb278.okS EE.G = true := by kernel_rfl
theorem pb278_run : evT EE paT 1000000000 (.call pb278.f pb278.args) pb278.heap (keptK pb278) = some (.bool true) := by kernel_rfl
theorem pb278_h : pb278.holds EE := ent_run envOk paT_holds _ _ pb278_ok pb278_run
-- decani/office.Kept, 13447 steps
noncomputable def pb299 : Ent :=
  ⟨11, [.agg ⟨[iP 5, iP 0, .slice (some ⟨6, 0, none⟩) 3 18446744073709551616, .slice (some ⟨7, 0, none⟩) 1 1, .bool false, .slice none 0 0, .bool false, .slice none 0 0]⟩, iP 0, iP 0], 8,
   gB ++ [(6, .cells true 4 [iP 4, iP 4, iP 1, iP 4, iP 4, iP 1, iP 4, iP 4, iP 1]),
    (7, .cells true 0 [iP 1, iP 1, iP 1])],
   [],
   .tuple ⟨[iP 2, iP 0]⟩⟩
theorem pb299_ok : pb299.okS EE.G = true := by kernel_rfl
theorem pb299_run : evT EE paT 1000000000 (.call pb299.f pb299.args) pb299.heap (keptK pb299) = some (.bool true) := by kernel_rfl
theorem pb299_h : pb299.holds EE := ent_run envOk paT_holds _ _ pb299_ok pb299_run
-- decani/office.Falls, 17977 steps
noncomputable def pb320 : Ent :=
  ⟨9, [.agg ⟨[iP 5, iP 0, .slice (some ⟨6, 0, none⟩) 4 18446744073709551616, .slice (some ⟨7, 0, none⟩) 1 1, .bool false, .slice none 0 0, .bool false, .slice none 0 0]⟩, iP 0, iP 1], 8,
   gB ++ [(6, .cells true 4 [iP 1, iP 1, iP 1, iP 1, iP 1, iP 1, iP 1, iP 1, iP 1, iP 1, iP 1, iP 1]),
    (7, .cells true 0 [iP 1, iP 1, iP 1])],
   [],
   .tuple ⟨[.agg ⟨[iP 2, iP 2]⟩, iP 0]⟩⟩
theorem pb320_ok : pb320.okS EE.G = true := by kernel_rfl
theorem pb320_run : evT EE paT 1000000000 (.call pb320.f pb320.args) pb320.heap (keptK pb320) = some (.bool true) := by kernel_rfl
theorem pb320_h : pb320.holds EE := ent_run envOk paT_holds _ _ pb320_ok pb320_run
-- decani/office.Kept, 17184 steps
noncomputable def pb341 : Ent :=
  ⟨11, [.agg ⟨[iP 5, iP 0, .slice (some ⟨6, 0, none⟩) 4 18446744073709551616, .slice (some ⟨7, 0, none⟩) 1 1, .bool false, .slice none 0 0, .bool false, .slice none 0 0]⟩, iP 0, iP 0], 8,
   gB ++ [(6, .cells true 4 [iP 3, iP 3, iP 1, iP 3, iP 3, iP 1, iP 3, iP 3, iP 1, iP 3, iP 3, iP 1]),
    (7, .cells true 0 [iP 1, iP 1, iP 1])],
   [],
   .tuple ⟨[iP 2, iP 0]⟩⟩
theorem pb341_ok : pb341.okS EE.G = true := by kernel_rfl
theorem pb341_run : evT EE paT 1000000000 (.call pb341.f pb341.args) pb341.heap (keptK pb341) = some (.bool true) := by kernel_rfl
theorem pb341_h : pb341.holds EE := ent_run envOk paT_holds _ _ pb341_ok pb341_run
-- decani/office.Falls, 9552 steps
noncomputable def pb362 : Ent :=
  ⟨9, [.agg ⟨[iP 6, iP 0, .slice (some ⟨6, 0, none⟩) 1 18446744073709551616, .slice (some ⟨7, 0, none⟩) 1 1, .bool false, .slice none 0 0, .bool false, .slice none 0 0]⟩, iP 0, iP 0], 8,
   gB ++ [(6, .cells true 4 [iP 1, iP 1, iP 1]),
    (7, .cells true 0 [iP 1, iP 1, iP 1])],
   [],
   .tuple ⟨[.agg ⟨[iP 1, iP 1]⟩, iP 0]⟩⟩
theorem pb362_ok : pb362.okS EE.G = true := by kernel_rfl
theorem pb362_run : evT EE paT 1000000000 (.call pb362.f pb362.args) pb362.heap (keptK pb362) = some (.bool true) := by kernel_rfl
theorem pb362_h : pb362.holds EE := ent_run envOk paT_holds _ _ pb362_ok pb362_run
-- decani/office.Falls, 12364 steps
noncomputable def pb383 : Ent :=
  ⟨9, [.agg ⟨[iP 6, iP 0, .slice (some ⟨6, 0, none⟩) 2 18446744073709551616, .slice (some ⟨7, 0, none⟩) 1 1, .bool false, .slice none 0 0, .bool false, .slice none 0 0]⟩, iP 0, iP 0], 8,
   gB ++ [(6, .cells true 4 [iP 1, iP 1, iP 1, iP 1, iP 1, iP 1]),
    (7, .cells true 0 [iP 1, iP 1, iP 1])],
   [],
   .tuple ⟨[.agg ⟨[iP 1, iP 1]⟩, iP 0]⟩⟩
theorem pb383_ok : pb383.okS EE.G = true := by kernel_rfl
theorem pb383_run : evT EE paT 1000000000 (.call pb383.f pb383.args) pb383.heap (keptK pb383) = some (.bool true) := by kernel_rfl
theorem pb383_h : pb383.holds EE := ent_run envOk paT_holds _ _ pb383_ok pb383_run
-- decani/office.Falls, 12568 steps
noncomputable def pb404 : Ent :=
  ⟨9, [.agg ⟨[iP 6, iP 0, .slice (some ⟨6, 0, none⟩) 2 18446744073709551616, .slice (some ⟨7, 0, none⟩) 1 1, .bool false, .slice none 0 0, .bool false, .slice none 0 0]⟩, iP 0, iP 1], 8,
   gB ++ [(6, .cells true 4 [iP 4, iP 4, iP 1, iP 4, iP 4, iP 1]),
    (7, .cells true 0 [iP 1, iP 1, iP 1])],
   [],
   .tuple ⟨[.agg ⟨[iP 5, iP 5]⟩, iP 0]⟩⟩
theorem pb404_ok : pb404.okS EE.G = true := by kernel_rfl
theorem pb404_run : evT EE paT 1000000000 (.call pb404.f pb404.args) pb404.heap (keptK pb404) = some (.bool true) := by kernel_rfl
theorem pb404_h : pb404.holds EE := ent_run envOk paT_holds _ _ pb404_ok pb404_run
-- decani/office.Kept, 15723 steps
noncomputable def pb425 : Ent :=
  ⟨11, [.agg ⟨[iP 6, iP 0, .slice (some ⟨6, 0, none⟩) 3 18446744073709551616, .slice (some ⟨7, 0, none⟩) 1 1, .bool false, .slice none 0 0, .bool false, .slice none 0 0]⟩, iP 0, iP 1], 8,
   gB ++ [(6, .cells true 4 [iP 1, iP 1, iP 1, iP 1, iP 1, iP 1, iP 1, iP 1, iP 1]),
    (7, .cells true 0 [iP 1, iP 1, iP 1])],
   [],
   .tuple ⟨[iP 2, iP 0]⟩⟩
theorem pb425_ok : pb425.okS EE.G = true := by kernel_rfl
theorem pb425_run : evT EE paT 1000000000 (.call pb425.f pb425.args) pb425.heap (keptK pb425) = some (.bool true) := by kernel_rfl
theorem pb425_h : pb425.holds EE := ent_run envOk paT_holds _ _ pb425_ok pb425_run
-- decani/office.Kept, 15876 steps
noncomputable def pb446 : Ent :=
  ⟨11, [.agg ⟨[iP 6, iP 0, .slice (some ⟨6, 0, none⟩) 3 18446744073709551616, .slice (some ⟨7, 0, none⟩) 1 1, .bool false, .slice none 0 0, .bool false, .slice none 0 0]⟩, iP 0, iP 2], 8,
   gB ++ [(6, .cells true 4 [iP 3, iP 3, iP 1, iP 3, iP 3, iP 1, iP 3, iP 3, iP 1]),
    (7, .cells true 0 [iP 1, iP 1, iP 1])],
   [],
   .tuple ⟨[iP 2, iP 0]⟩⟩
theorem pb446_ok : pb446.okS EE.G = true := by kernel_rfl
theorem pb446_run : evT EE paT 1000000000 (.call pb446.f pb446.args) pb446.heap (keptK pb446) = some (.bool true) := by kernel_rfl
theorem pb446_h : pb446.holds EE := ent_run envOk paT_holds _ _ pb446_ok pb446_run
-- decani/office.Kept, 19648 steps
noncomputable def pb467 : Ent :=
  ⟨11, [.agg ⟨[iP 6, iP 0, .slice (some ⟨6, 0, none⟩) 4 18446744073709551616, .slice (some ⟨7, 0, none⟩) 1 1, .bool false, .slice none 0 0, .bool false, .slice none 0 0]⟩, iP 0, iP 1], 8,
   gB ++ [(6, .cells true 4 [iP 0, iP 0, iP 1, iP 0, iP 0, iP 1, iP 0, iP 0, iP 1, iP 0, iP 0, iP 1]),
    (7, .cells true 0 [iP 1, iP 1, iP 1])],
   [],
   .tuple ⟨[iP 2, iP 0]⟩⟩
theorem pb467_ok : pb467.okS EE.G = true := by kernel_rfl
theorem pb467_run : evT EE paT 1000000000 (.call pb467.f pb467.args) pb467.heap (keptK pb467) = some (.bool true) := by kernel_rfl
theorem pb467_h : pb467.holds EE := ent_run envOk paT_holds _ _ pb467_ok pb467_run
-- decani/office.Kept, 19699 steps
noncomputable def pb488 : Ent :=
  ⟨11, [.agg ⟨[iP 6, iP 0, .slice (some ⟨6, 0, none⟩) 4 18446744073709551616, .slice (some ⟨7, 0, none⟩) 1 1, .bool false, .slice none 0 0, .bool false, .slice none 0 0]⟩, iP 0, iP 0], 8,
   gB ++ [(6, .cells true 4 [iP 2, iP 2, iP 1, iP 2, iP 2, iP 1, iP 2, iP 2, iP 1, iP 2, iP 2, iP 1]),
    (7, .cells true 0 [iP 1, iP 1, iP 1])],
   [],
   .tuple ⟨[iP 2, iP 0]⟩⟩
theorem pb488_ok : pb488.okS EE.G = true := by kernel_rfl
theorem pb488_run : evT EE paT 1000000000 (.call pb488.f pb488.args) pb488.heap (keptK pb488) = some (.bool true) := by kernel_rfl
theorem pb488_h : pb488.holds EE := ent_run envOk paT_holds _ _ pb488_ok pb488_run
-- decani/office.Kept, 19770 steps
noncomputable def pb509 : Ent :=
  ⟨11, [.agg ⟨[iP 6, iP 0, .slice (some ⟨6, 0, none⟩) 4 18446744073709551616, .slice (some ⟨7, 0, none⟩) 1 1, .bool false, .slice none 0 0, .bool false, .slice none 0 0]⟩, iP 0, iP 3], 8,
   gB ++ [(6, .cells true 4 [iP 3, iP 3, iP 1, iP 3, iP 3, iP 1, iP 3, iP 3, iP 1, iP 3, iP 3, iP 1]),
    (7, .cells true 0 [iP 1, iP 1, iP 1])],
   [],
   .tuple ⟨[iP 0, iP 0]⟩⟩
theorem pb509_ok : pb509.okS EE.G = true := by kernel_rfl
theorem pb509_run : evT EE paT 1000000000 (.call pb509.f pb509.args) pb509.heap (keptK pb509) = some (.bool true) := by kernel_rfl
theorem pb509_h : pb509.holds EE := ent_run envOk paT_holds _ _ pb509_ok pb509_run
-- decani/office.Chief, 6991 steps
noncomputable def pb530 : Ent :=
  ⟨14, [.agg ⟨[iP 4, iP 0, .slice (some ⟨6, 0, none⟩) 1 18446744073709551616, .slice (some ⟨7, 0, none⟩) 1 1, .bool false, .slice none 0 0, .bool false, .slice none 0 0]⟩, iP 0, iP 1], 8,
   gB ++ [(6, .cells true 4 [iP 1, iP 1, iP 1]),
    (7, .cells true 0 [iP 1, iP 1, iP 1])],
   [.cells true 2 [iP 0]],
   .tuple ⟨[.slice (some ⟨8, 0, none⟩) 1 18446744073709551616, iP 0]⟩⟩
theorem pb530_ok : pb530.okS EE.G = true := by kernel_rfl
theorem pb530_run : evT EE paT 1000000000 (.call pb530.f pb530.args) pb530.heap (keptK pb530) = some (.bool true) := by kernel_rfl
theorem pb530_h : pb530.holds EE := ent_run envOk paT_holds _ _ pb530_ok pb530_run
-- decani/office.Kept, 5734 steps
noncomputable def pb560 : Ent :=
  ⟨11, [.agg ⟨[iP 3, iP 0, .slice (some ⟨6, 0, none⟩) 1 18446744073709551616, .slice (some ⟨7, 0, none⟩) 1 1, .bool false, .slice none 0 0, .bool false, .slice none 0 0]⟩, iP 0, iP 0], 8,
   gB ++ [(6, .cells true 4 [iP 1, iP 1, iP 1]),
    (7, .cells true 0 [iP 1, iP 1, iP 1])],
   [],
   .tuple ⟨[iP 2, iP 0]⟩⟩
theorem pb560_ok : pb560.okS EE.G = true := by kernel_rfl
theorem pb560_run : evT EE paT 1000000000 (.call pb560.f pb560.args) pb560.heap (keptK pb560) = some (.bool true) := by kernel_rfl
theorem pb560_h : pb560.holds EE := ent_run envOk paT_holds _ _ pb560_ok pb560_run
end Go.Proofs.YtmjpnohpmfmdlaaGreatDoor
