/- Known calls, part 7: what single calls hand back, at small heaps, by the kernel's own run of the evaluator. No conditions. -/
import Derived.Test.YtmjpnohpmfmdlaaGreatDoorPAT
set_option linter.all false
namespace Go.Proofs.YtmjpnohpmfmdlaaGreatDoor
open Go.Ai
set_option maxRecDepth 1000000
-- decani/office.Kept, 8553 steps
noncomputable def pb7 : Ent :=
  ⟨11, [.agg ⟨[iP 1, iP 0, .slice (some ⟨6, 0, none⟩) 4 18446744073709551616, .slice (some ⟨7, 0, none⟩) 1 1, .bool false, .slice none 0 0, .bool false, .slice none 0 0]⟩, iP 0, iP 1], 8,
   gB ++ [(6, .cells true 4 [iP 0, iP 0, iP 1, iP 0, iP 0, iP 1, iP 0, iP 0, iP 1, iP 0, iP 0, iP 1]),
    (7, .cells true 0 [iP 1, iP 1, iP 1])],
   [],
   .tuple ⟨[iP 0, iP 0]⟩⟩
theorem pb7_ok : pb7.okS EE.G = true := by kernel_rfl
theorem pb7_run : evT EE paT 1000000000 (.call pb7.f pb7.args) pb7.heap (keptK pb7) = some (.bool true) := by kernel_rfl
theorem pb7_h : pb7.holds EE := ent_run envOk paT_holds _ _ pb7_ok pb7_run
-- decani/office.Kept, 11607 steps
noncomputable def pb28 : Ent :=
  ⟨11, [.agg ⟨[iP 2, iP 0, .slice (some ⟨6, 0, none⟩) 4 18446744073709551616, .slice (some ⟨7, 0, none⟩) 1 1, .bool false, .slice none 0 0, .bool false, .slice none 0 0]⟩, iP 0, iP 0], 8,
   gB ++ [(6, .cells true 4 [iP 0, iP 0, iP 1, iP 0, iP 0, iP 1, iP 0, iP 0, iP 1, iP 0, iP 0, iP 1]),
    (7, .cells true 0 [iP 1, iP 1, iP 1])],
   [],
   .tuple ⟨[iP 2, iP 0]⟩⟩
theorem pb28_ok : pb28.okS EE.G = true := by kernel_rfl
theorem pb28_run : evT EE paT 1000000000 (.call pb28.f pb28.args) pb28.heap (keptK pb28) = some (.bool true) := by kernel_rfl
theorem pb28_h : pb28.holds EE := ent_run envOk paT_holds _ _ pb28_ok pb28_run
-- decani/office.Falls, 8068 steps
noncomputable def pb49 : Ent :=
  ⟨9, [.agg ⟨[iP 3, iP 0, .slice (some ⟨6, 0, none⟩) 2 18446744073709551616, .slice (some ⟨7, 0, none⟩) 1 1, .bool false, .slice none 0 0, .bool false, .slice none 0 0]⟩, iP 0, iP 1], 8,
   gB ++ [(6, .cells true 4 [iP 0, iP 0, iP 1, iP 0, iP 0, iP 1]),
    (7, .cells true 0 [iP 1, iP 1, iP 1])],
   [],
   .tuple ⟨[.agg ⟨[iP 1, iP 1]⟩, iP 0]⟩⟩
theorem pb49_ok : pb49.okS EE.G = true := by kernel_rfl
theorem pb49_run : evT EE paT 1000000000 (.call pb49.f pb49.args) pb49.heap (keptK pb49) = some (.bool true) := by kernel_rfl
theorem pb49_h : pb49.holds EE := ent_run envOk paT_holds _ _ pb49_ok pb49_run
-- decani/office.Kept, 10863 steps
noncomputable def pb70 : Ent :=
  ⟨11, [.agg ⟨[iP 3, iP 0, .slice (some ⟨6, 0, none⟩) 3 18446744073709551616, .slice (some ⟨7, 0, none⟩) 1 1, .bool false, .slice none 0 0, .bool false, .slice none 0 0]⟩, iP 0, iP 2], 8,
   gB ++ [(6, .cells true 4 [iP 0, iP 0, iP 1, iP 0, iP 0, iP 1, iP 0, iP 0, iP 1]),
    (7, .cells true 0 [iP 1, iP 1, iP 1])],
   [],
   .tuple ⟨[iP 2, iP 0]⟩⟩
theorem pb70_ok : pb70.okS EE.G = true := by kernel_rfl
theorem pb70_run : evT EE paT 1000000000 (.call pb70.f pb70.args) pb70.heap (keptK pb70) = some (.bool true) := by kernel_rfl
theorem pb70_h : pb70.holds EE := ent_run envOk paT_holds _ _ pb70_ok pb70_run
-- decani/office.Kept, 14136 steps
noncomputable def pb91 : Ent :=
  ⟨11, [.agg ⟨[iP 3, iP 0, .slice (some ⟨6, 0, none⟩) 4 18446744073709551616, .slice (some ⟨7, 0, none⟩) 1 1, .bool false, .slice none 0 0, .bool false, .slice none 0 0]⟩, iP 0, iP 1], 8,
   gB ++ [(6, .cells true 4 [iP 0, iP 0, iP 1, iP 0, iP 0, iP 1, iP 0, iP 0, iP 1, iP 0, iP 0, iP 1]),
    (7, .cells true 0 [iP 1, iP 1, iP 1])],
   [],
   .tuple ⟨[iP 2, iP 0]⟩⟩
theorem pb91_ok : pb91.okS EE.G = true := by kernel_rfl
theorem pb91_run : evT EE paT 1000000000 (.call pb91.f pb91.args) pb91.heap (keptK pb91) = some (.bool true) := by kernel_rfl
theorem pb91_h : pb91.holds EE := ent_run envOk paT_holds _ _ pb91_ok pb91_run
-- decani/office.Kept, 12271 steps
noncomputable def pb112 : Ent :=
  ⟨11, [.agg ⟨[iP 3, iP 0, .slice (some ⟨6, 0, none⟩) 4 18446744073709551616, .slice (some ⟨7, 0, none⟩) 1 1, .bool false, .slice none 0 0, .bool false, .slice none 0 0]⟩, iP 0, iP 1], 8,
   gB ++ [(6, .cells true 4 [iP 2, iP 2, iP 1, iP 2, iP 2, iP 1, iP 2, iP 2, iP 1, iP 2, iP 2, iP 1]),
    (7, .cells true 0 [iP 1, iP 1, iP 1])],
   [],
   .tuple ⟨[iP 0, iP 0]⟩⟩
theorem pb112_ok : pb112.okS EE.G = true := by kernel_rfl
theorem pb112_run : evT EE paT 1000000000 (.call pb112.f pb112.args) pb112.heap (keptK pb112) = some (.bool true) := by kernel_rfl
theorem pb112_h : pb112.holds EE := ent_run envOk paT_holds _ _ pb112_ok pb112_run
-- decani/office.Kept, 9465 steps
noncomputable def pb133 : Ent :=
  ⟨11, [.agg ⟨[iP 4, iP 0, .slice (some ⟨6, 0, none⟩) 2 18446744073709551616, .slice (some ⟨7, 0, none⟩) 1 1, .bool false, .slice none 0 0, .bool false, .slice none 0 0]⟩, iP 0, iP 1], 8,
   gB ++ [(6, .cells true 4 [iP 1, iP 1, iP 1, iP 1, iP 1, iP 1]),
    (7, .cells true 0 [iP 1, iP 1, iP 1])],
   [],
   .tuple ⟨[iP 2, iP 0]⟩⟩
theorem pb133_ok : pb133.okS EE.G = true := by kernel_rfl
theorem pb133_run : evT EE paT 1000000000 (.call pb133.f pb133.args) pb133.heap (keptK pb133) = some (.bool true) := by kernel_rfl
theorem pb133_h : pb133.holds EE := ent_run envOk paT_holds _ _ pb133_ok pb133_run
-- decani/office.Chief, 12445 steps
noncomputable def pb154 : Ent :=
  ⟨14, [.agg ⟨[iP 4, iP 0, .slice (some ⟨6, 0, none⟩) 3 18446744073709551616, .slice (some ⟨7, 0, none⟩) 1 1, .bool false, .slice none 0 0, .bool false, .slice none 0 0]⟩, iP 0, iP 2], 8,
   gB ++ [(6, .cells true 4 [iP 0, iP 0, iP 1, iP 0, iP 0, iP 1, iP 0, iP 0, iP 1]),
    (7, .cells true 0 [iP 1, iP 1, iP 1])],
   [.cells true 2 [iP 2]],
   .tuple ⟨[.slice (some ⟨8, 0, none⟩) 1 18446744073709551616, iP 0]⟩⟩
theorem pb154_ok : pb154.okS EE.G = true := by kernel_rfl
theorem pb154_run : evT EE paT 1000000000 (.call pb154.f pb154.args) pb154.heap (keptK pb154) = some (.bool true) := by kernel_rfl
theorem pb154_h : pb154.holds EE := ent_run envOk paT_holds _ _ pb154_ok pb154_run
-- decani/office.Falls, 11791 steps
noncomputable def pb175 : Ent :=
  ⟨9, [.agg ⟨[iP 4, iP 0, .slice (some ⟨6, 0, none⟩) 3 18446744073709551616, .slice (some ⟨7, 0, none⟩) 1 1, .bool false, .slice none 0 0, .bool false, .slice none 0 0]⟩, iP 0, iP 1], 8,
   gB ++ [(6, .cells true 4 [iP 3, iP 3, iP 1, iP 3, iP 3, iP 1, iP 3, iP 3, iP 1]),
    (7, .cells true 0 [iP 1, iP 1, iP 1])],
   [],
   .tuple ⟨[.agg ⟨[iP 0, iP 0]⟩, iP 4]⟩⟩
theorem pb175_ok : pb175.okS EE.G = true := by kernel_rfl
theorem pb175_run : evT EE paT 1000000000 (.call pb175.f pb175.args) pb175.heap (keptK pb175) = some (.bool true) := by kernel_rfl
theorem pb175_h : pb175.holds EE := ent_run envOk paT_holds _ _ pb175_ok pb175_run
-- decani/office.Chief, 15957 steps
noncomputable def pb196 : Ent :=
  ⟨14, [.agg ⟨[iP 4, iP 0, .slice (some ⟨6, 0, none⟩) 4 18446744073709551616, .slice (some ⟨7, 0, none⟩) 1 1, .bool false, .slice none 0 0, .bool false, .slice none 0 0]⟩, iP 0, iP 2], 8,
   gB ++ [(6, .cells true 4 [iP 1, iP 1, iP 1, iP 1, iP 1, iP 1, iP 1, iP 1, iP 1, iP 1, iP 1, iP 1]),
    (7, .cells true 0 [iP 1, iP 1, iP 1])],
   [.cells true 2 [iP 1]],
   .tuple ⟨[.slice (some ⟨8, 0, none⟩) 1 18446744073709551616, iP 0]⟩⟩
theorem pb196_ok : pb196.okS EE.G = true := by kernel_rfl
theorem pb196_run : evT EE paT 1000000000 (.call pb196.f pb196.args) pb196.heap (keptK pb196) = some (.bool true) := by kernel_rfl
theorem pb196_h : pb196.holds EE := ent_run envOk paT_holds _ _ pb196_ok pb196_run
-- decani/office.Falls, 14139 steps
noncomputable def pb217 : Ent :=
  ⟨9, [.agg ⟨[iP 4, iP 0, .slice (some ⟨6, 0, none⟩) 4 18446744073709551616, .slice (some ⟨7, 0, none⟩) 1 1, .bool false, .slice none 0 0, .bool false, .slice none 0 0]⟩, iP 0, iP 2], 8,
   gB ++ [(6, .cells true 4 [iP 3, iP 3, iP 1, iP 3, iP 3, iP 1, iP 3, iP 3, iP 1, iP 3, iP 3, iP 1]),
    (7, .cells true 0 [iP 1, iP 1, iP 1])],
   [],
   .tuple ⟨[.agg ⟨[iP 0, iP 0]⟩, iP 4]⟩⟩
theorem pb217_ok : pb217.okS EE.G = true := by kernel_rfl
theorem pb217_run : evT EE paT 1000000000 (.call pb217.f pb217.args) pb217.heap (keptK pb217) = some (.bool true) := by kernel_rfl
theorem pb217_h : pb217.holds EE := ent_run envOk paT_holds _ _ pb217_ok pb217_run
-- decani/office.Chief, 10859 steps
noncomputable def pb238 : Ent :=
  ⟨14, [.agg ⟨[iP 5, iP 0, .slice (some ⟨6, 0, none⟩) 2 18446744073709551616, .slice (some ⟨7, 0, none⟩) 1 1, .bool false, .slice none 0 0, .bool false, .slice none 0 0]⟩, iP 0, iP 0], 8,
   gB ++ [(6, .cells true 4 [iP 0, iP 0, iP 1, iP 0, iP 0, iP 1]),
    (7, .cells true 0 [iP 1, iP 1, iP 1])],
   [.cells true 2 [iP 0]],
   .tuple ⟨[.slice (some ⟨8, 0, none⟩) 1 18446744073709551616, iP 0]⟩⟩
theorem pb238_ok : pb238.okS EE.G = true := by kernel_rfl
theorem pb238_run : evT EE paT 1000000000 (.call pb238.f pb238.args) pb238.heap (keptK pb238) = some (.bool true) := by kernel_rfl
theorem pb238_h : pb238.holds EE := ent_run envOk paT_holds _ _ pb238_ok pb238_run
-- decani/office.Chief, 10859 steps
noncomputable def pb259 : Ent :=
  ⟨14, [.agg ⟨[iP 5, iP 0, .slice (some ⟨6, 0, none⟩) 2 18446744073709551616, .slice (some ⟨7, 0, none⟩) 1 1, .bool false, .slice none 0 0, .bool false, .slice none 0 0]⟩, iP 0, iP 4], 8,
   gB ++ [(6, .cells true 4 [iP 3, iP 3, iP 1, iP 3, iP 3, iP 1]),
    (7, .cells true 0 [iP 1, iP 1, iP 1])],
   [.cells true 2 [iP 1]],
   .tuple ⟨[.slice (some ⟨8, 0, none⟩) 1 18446744073709551616, iP 0]⟩⟩
theorem pb259_ok : pb259.okS EE.G = true := by kernel_rfl
theorem pb259_run : evT EE paT 1000000000 (.call pb259.f pb259.args) pb259.heap (keptK pb259) = some (.bool true) := by kernel_rfl
theorem pb259_h : pb259.holds EE := ent_run envOk paT_holds _ _ pb259_ok pb259_run
-- decani/office.Kept, 14154 steps
noncomputable def pb280 : Ent :=
  ⟨11, [.agg ⟨[iP 5, iP 0, .slice (some ⟨6, 0, none⟩) 3 18446744073709551616, .slice (some ⟨7, 0, none⟩) 1 1, .bool false, .slice none 0 0, .bool false, .slice none 0 0]⟩, iP 0, iP 2], 8,
   gB ++ [(6, .cells true 4 [iP 1, iP 1, iP 1, iP 1, iP 1, iP 1, iP 1, iP 1, iP 1]),
    (7, .cells true 0 [iP 1, iP 1, iP 1])],
   [],
   .tuple ⟨[iP 2, iP 0]⟩⟩
theorem pb280_ok : pb280.okS EE.G = true := by kernel_rfl
theorem pb280_run : evT EE paT 1000000000 (.call pb280.f pb280.args) pb280.heap (keptK pb280) = some (.bool true) := by kernel_rfl
theorem pb280_h : pb280.holds EE := ent_run envOk paT_holds _ _ pb280_ok pb280_run
-- decani/office.Falls, 13462 steps
noncomputable def pb301 : Ent :=
  ⟨9, [.agg ⟨[iP 5, iP 0, .slice (some ⟨6, 0, none⟩) 3 18446744073709551616, .slice (some ⟨7, 0, none⟩) 1 1, .bool false, .slice none 0 0, .bool false, .slice none 0 0]⟩, iP 0, iP 1], 8,
   gB ++ [(6, .cells true 4 [iP 4, iP 4, iP 1, iP 4, iP 4, iP 1, iP 4, iP 4, iP 1]),
    (7, .cells true 0 [iP 1, iP 1, iP 1])],
   [],
   .tuple ⟨[.agg ⟨[iP 0, iP 0]⟩, iP 4]⟩⟩
theorem pb301_ok : pb301.okS EE.G = true := by kernel_rfl
theorem pb301_run : evT EE paT 1000000000 (.call pb301.f pb301.args) pb301.heap (keptK pb301) = some (.bool true) := by kernel_rfl
theorem pb301_h : pb301.holds EE := ent_run envOk paT_holds _ _ pb301_ok pb301_run
-- decani/office.Chief, 17853 steps
noncomputable def pb322 : Ent :=
  ⟨14, [.agg ⟨[iP 5, iP 0, .slice (some ⟨6, 0, none⟩) 4 18446744073709551616, .slice (some ⟨7, 0, none⟩) 1 1, .bool false, .slice none 0 0, .bool false, .slice none 0 0]⟩, iP 0, iP 2], 8,
   gB ++ [(6, .cells true 4 [iP 1, iP 1, iP 1, iP 1, iP 1, iP 1, iP 1, iP 1, iP 1, iP 1, iP 1, iP 1]),
    (7, .cells true 0 [iP 1, iP 1, iP 1])],
   [.cells true 2 [iP 1]],
   .tuple ⟨[.slice (some ⟨8, 0, none⟩) 1 18446744073709551616, iP 0]⟩⟩
theorem pb322_ok : pb322.okS EE.G = true := by kernel_rfl
theorem pb322_run : evT EE paT 1000000000 (.call pb322.f pb322.args) pb322.heap (keptK pb322) = some (.bool true) := by kernel_rfl
theorem pb322_h : pb322.holds EE := ent_run envOk paT_holds _ _ pb322_ok pb322_run
-- decani/office.Falls, 17321 steps
noncomputable def pb343 : Ent :=
  ⟨9, [.agg ⟨[iP 5, iP 0, .slice (some ⟨6, 0, none⟩) 4 18446744073709551616, .slice (some ⟨7, 0, none⟩) 1 1, .bool false, .slice none 0 0, .bool false, .slice none 0 0]⟩, iP 0, iP 1], 8,
   gB ++ [(6, .cells true 4 [iP 3, iP 3, iP 1, iP 3, iP 3, iP 1, iP 3, iP 3, iP 1, iP 3, iP 3, iP 1]),
    (7, .cells true 0 [iP 1, iP 1, iP 1])],
   [],
   .tuple ⟨[.agg ⟨[iP 4, iP 4]⟩, iP 0]⟩⟩
theorem pb343_ok : pb343.okS EE.G = true := by kernel_rfl
theorem pb343_run : evT EE paT 1000000000 (.call pb343.f pb343.args) pb343.heap (keptK pb343) = some (.bool true) := by kernel_rfl
theorem pb343_h : pb343.holds EE := ent_run envOk paT_holds _ _ pb343_ok pb343_run
-- decani/office.Chief, 9479 steps
noncomputable def pb364 : Ent :=
  ⟨14, [.agg ⟨[iP 6, iP 0, .slice (some ⟨6, 0, none⟩) 1 18446744073709551616, .slice (some ⟨7, 0, none⟩) 1 1, .bool false, .slice none 0 0, .bool false, .slice none 0 0]⟩, iP 0, iP 1], 8,
   gB ++ [(6, .cells true 4 [iP 1, iP 1, iP 1]),
    (7, .cells true 0 [iP 1, iP 1, iP 1])],
   [.cells true 2 [iP 0]],
   .tuple ⟨[.slice (some ⟨8, 0, none⟩) 1 18446744073709551616, iP 0]⟩⟩
theorem pb364_ok : pb364.okS EE.G = true := by kernel_rfl
theorem pb364_run : evT EE paT 1000000000 (.call pb364.f pb364.args) pb364.heap (keptK pb364) = some (.bool true) := by kernel_rfl
theorem pb364_h : pb364.holds EE := ent_run envOk paT_holds _ _ pb364_ok pb364_run
-- decani/office.Chief, 12291 steps
noncomputable def pb385 : Ent :=
  ⟨14, [.agg ⟨[iP 6, iP 0, .slice (some ⟨6, 0, none⟩) 2 18446744073709551616, .slice (some ⟨7, 0, none⟩) 1 1, .bool false, .slice none 0 0, .bool false, .slice none 0 0]⟩, iP 0, iP 1], 8,
   gB ++ [(6, .cells true 4 [iP 1, iP 1, iP 1, iP 1, iP 1, iP 1]),
    (7, .cells true 0 [iP 1, iP 1, iP 1])],
   [.cells true 2 [iP 0]],
   .tuple ⟨[.slice (some ⟨8, 0, none⟩) 1 18446744073709551616, iP 0]⟩⟩
theorem pb385_ok : pb385.okS EE.G = true := by kernel_rfl
theorem pb385_run : evT EE paT 1000000000 (.call pb385.f pb385.args) pb385.heap (keptK pb385) = some (.bool true) := by kernel_rfl
theorem pb385_h : pb385.holds EE := ent_run envOk paT_holds _ _ pb385_ok pb385_run
-- decani/office.Chief, 12291 steps
noncomputable def pb406 : Ent :=
  ⟨14, [.agg ⟨[iP 6, iP 0, .slice (some ⟨6, 0, none⟩) 2 18446744073709551616, .slice (some ⟨7, 0, none⟩) 1 1, .bool false, .slice none 0 0, .bool false, .slice none 0 0]⟩, iP 0, iP 5], 8,
   gB ++ [(6, .cells true 4 [iP 4, iP 4, iP 1, iP 4, iP 4, iP 1]),
    (7, .cells true 0 [iP 1, iP 1, iP 1])],
   [.cells true 2 [iP 1]],
   .tuple ⟨[.slice (some ⟨8, 0, none⟩) 1 18446744073709551616, iP 0]⟩⟩
theorem pb406_ok : pb406.okS EE.G = true := by kernel_rfl
theorem pb406_run : evT EE paT 1000000000 (.call pb406.f pb406.args) pb406.heap (keptK pb406) = some (.bool true) := by kernel_rfl
theorem pb406_h : pb406.holds EE := ent_run envOk paT_holds _ _ pb406_ok pb406_run
-- decani/office.Falls, 15860 steps
noncomputable def pb427 : Ent :=
  ⟨9, [.agg ⟨[iP 6, iP 0, .slice (some ⟨6, 0, none⟩) 3 18446744073709551616, .slice (some ⟨7, 0, none⟩) 1 1, .bool false, .slice none 0 0, .bool false, .slice none 0 0]⟩, iP 0, iP 2], 8,
   gB ++ [(6, .cells true 4 [iP 1, iP 1, iP 1, iP 1, iP 1, iP 1, iP 1, iP 1, iP 1]),
    (7, .cells true 0 [iP 1, iP 1, iP 1])],
   [],
   .tuple ⟨[.agg ⟨[iP 3, iP 3]⟩, iP 0]⟩⟩
theorem pb427_ok : pb427.okS EE.G = true := by kernel_rfl
theorem pb427_run : evT EE paT 1000000000 (.call pb427.f pb427.args) pb427.heap (keptK pb427) = some (.bool true) := by kernel_rfl
theorem pb427_h : pb427.holds EE := ent_run envOk paT_holds _ _ pb427_ok pb427_run
-- decani/office.Falls, 15823 steps
noncomputable def pb448 : Ent :=
  ⟨9, [.agg ⟨[iP 6, iP 0, .slice (some ⟨6, 0, none⟩) 3 18446744073709551616, .slice (some ⟨7, 0, none⟩) 1 1, .bool false, .slice none 0 0, .bool false, .slice none 0 0]⟩, iP 0, iP 0], 8,
   gB ++ [(6, .cells true 4 [iP 4, iP 4, iP 1, iP 4, iP 4, iP 1, iP 4, iP 4, iP 1]),
    (7, .cells true 0 [iP 1, iP 1, iP 1])],
   [],
   .tuple ⟨[.agg ⟨[iP 4, iP 4]⟩, iP 0]⟩⟩
theorem pb448_ok : pb448.okS EE.G = true := by kernel_rfl
theorem pb448_run : evT EE paT 1000000000 (.call pb448.f pb448.args) pb448.heap (keptK pb448) = some (.bool true) := by kernel_rfl
theorem pb448_h : pb448.holds EE := ent_run envOk paT_holds _ _ pb448_ok pb448_run
-- decani/office.Falls, 19785 steps
noncomputable def pb469 : Ent :=
  ⟨9, [.agg ⟨[iP 6, iP 0, .slice (some ⟨6, 0, none⟩) 4 18446744073709551616, .slice (some ⟨7, 0, none⟩) 1 1, .bool false, .slice none 0 0, .bool false, .slice none 0 0]⟩, iP 0, iP 2], 8,
   gB ++ [(6, .cells true 4 [iP 0, iP 0, iP 1, iP 0, iP 0, iP 1, iP 0, iP 0, iP 1, iP 0, iP 0, iP 1]),
    (7, .cells true 0 [iP 1, iP 1, iP 1])],
   [],
   .tuple ⟨[.agg ⟨[iP 2, iP 2]⟩, iP 0]⟩⟩
theorem pb469_ok : pb469.okS EE.G = true := by kernel_rfl
theorem pb469_run : evT EE paT 1000000000 (.call pb469.f pb469.args) pb469.heap (keptK pb469) = some (.bool true) := by kernel_rfl
theorem pb469_h : pb469.holds EE := ent_run envOk paT_holds _ _ pb469_ok pb469_run
-- decani/office.Falls, 19836 steps
noncomputable def pb490 : Ent :=
  ⟨9, [.agg ⟨[iP 6, iP 0, .slice (some ⟨6, 0, none⟩) 4 18446744073709551616, .slice (some ⟨7, 0, none⟩) 1 1, .bool false, .slice none 0 0, .bool false, .slice none 0 0]⟩, iP 0, iP 1], 8,
   gB ++ [(6, .cells true 4 [iP 2, iP 2, iP 1, iP 2, iP 2, iP 1, iP 2, iP 2, iP 1, iP 2, iP 2, iP 1]),
    (7, .cells true 0 [iP 1, iP 1, iP 1])],
   [],
   .tuple ⟨[.agg ⟨[iP 3, iP 3]⟩, iP 0]⟩⟩
theorem pb490_ok : pb490.okS EE.G = true := by kernel_rfl
theorem pb490_run : evT EE paT 1000000000 (.call pb490.f pb490.args) pb490.heap (keptK pb490) = some (.bool true) := by kernel_rfl
theorem pb490_h : pb490.holds EE := ent_run envOk paT_holds _ _ pb490_ok pb490_run
-- decani/office.Kept, 19043 steps
noncomputable def pb511 : Ent :=
  ⟨11, [.agg ⟨[iP 6, iP 0, .slice (some ⟨6, 0, none⟩) 4 18446744073709551616, .slice (some ⟨7, 0, none⟩) 1 1, .bool false, .slice none 0 0, .bool false, .slice none 0 0]⟩, iP 0, iP 0], 8,
   gB ++ [(6, .cells true 4 [iP 4, iP 4, iP 1, iP 4, iP 4, iP 1, iP 4, iP 4, iP 1, iP 4, iP 4, iP 1]),
    (7, .cells true 0 [iP 1, iP 1, iP 1])],
   [],
   .tuple ⟨[iP 2, iP 0]⟩⟩
theorem pb511_ok : pb511.okS EE.G = true := by kernel_rfl
theorem pb511_run : evT EE paT 1000000000 (.call pb511.f pb511.args) pb511.heap (keptK pb511) = some (.bool true) := by kernel_rfl
theorem pb511_h : pb511.holds EE := ent_run envOk paT_holds _ _ pb511_ok pb511_run
-- decani/office.Chief, 6991 steps
noncomputable def pb532 : Ent :=
  ⟨14, [.agg ⟨[iP 4, iP 0, .slice (some ⟨6, 0, none⟩) 1 18446744073709551616, .slice (some ⟨7, 0, none⟩) 1 1, .bool false, .slice none 0 0, .bool false, .slice none 0 0]⟩, iP 0, iP 3], 8,
   gB ++ [(6, .cells true 4 [iP 3, iP 3, iP 1]),
    (7, .cells true 0 [iP 1, iP 1, iP 1])],
   [.cells true 2 [iP 0]],
   .tuple ⟨[.slice (some ⟨8, 0, none⟩) 1 18446744073709551616, iP 0]⟩⟩
theorem pb532_ok : pb532.okS EE.G = true := by kernel_rfl
theorem pb532_run : evT EE paT 1000000000 (.call pb532.f pb532.args) pb532.heap (keptK pb532) = some (.bool true) := by kernel_rfl
theorem pb532_h : pb532.holds EE := ent_run envOk paT_holds _ _ pb532_ok pb532_run
-- decani/office.Falls, 5065 steps
noncomputable def pb562 : Ent :=
  ⟨9, [.agg ⟨[iP 1, iP 0, .slice (some ⟨6, 0, none⟩) 2 18446744073709551616, .slice (some ⟨7, 0, none⟩) 1 1, .bool false, .slice none 0 0, .bool false, .slice none 0 0]⟩, iP 0, iP 0], 8,
   gB ++ [(6, .cells true 4 [iP 0, iP 0, iP 1, iP 0, iP 0, iP 1]),
    (7, .cells true 0 [iP 1, iP 1, iP 1])],
   [],
   .tuple ⟨[.agg ⟨[iP 0, iP 0]⟩, iP 0]⟩⟩
theorem pb562_ok : pb562.okS EE.G = true := by kernel_rfl
theorem pb562_run : evT EE paT 1000000000 (.call pb562.f pb562.args) pb562.heap (keptK pb562) = some (.bool true) := by kernel_rfl
theorem pb562_h : pb562.holds EE := ent_run envOk paT_holds _ _ pb562_ok pb562_run
-- decani/office.Kept, 4490 steps
noncomputable def pb571 : Ent :=
  ⟨11, [.agg ⟨[iP 2, iP 0, .slice (some ⟨6, 0, none⟩) 1 18446744073709551616, .slice (some ⟨7, 0, none⟩) 1 1, .bool false, .slice none 0 0, .bool false, .slice none 0 0]⟩, iP 0, iP 0], 8,
   gB ++ [(6, .cells true 4 [iP 1, iP 1, iP 1]),
    (7, .cells true 0 [iP 1, iP 1, iP 1])],
   [],
   .tuple ⟨[iP 2, iP 0]⟩⟩
theorem pb571_ok : pb571.okS EE.G = true := by kernel_rfl
theorem pb571_run : evT EE paT 1000000000 (.call pb571.f pb571.args) pb571.heap (keptK pb571) = some (.bool true) := by kernel_rfl
theorem pb571_h : pb571.holds EE := ent_run envOk paT_holds _ _ pb571_ok pb571_run
end Go.Proofs.YtmjpnohpmfmdlaaGreatDoor
