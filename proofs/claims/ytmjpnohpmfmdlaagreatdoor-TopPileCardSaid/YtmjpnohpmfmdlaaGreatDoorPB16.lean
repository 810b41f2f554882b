/- Known calls, part 16: what single calls hand back, at small heaps, by the kernel's own run of the evaluator. No conditions. -/
import Derived.Test.YtmjpnohpmfmdlaaGreatDoorPAT
set_option linter.all false
namespace Go.Proofs.YtmjpnohpmfmdlaaGreatDoor
open Go.Ai
set_option maxRecDepth 1000000
-- decani/office.Kept, 9104 steps
noncomputable def pb16 : Ent :=
  ⟨11, [.agg ⟨[iP 2, iP 0, .slice (some ⟨6, 0, none⟩) 3 18446744073709551616, .slice (some ⟨7, 0, none⟩) 1 1, .bool false, .slice none 0 0, .bool false, .slice none 0 0]⟩, iP 0, iP 1], 8,
   gB ++ [(6, .cells true 4 [iP 0, iP 0, iP 1, iP 0, iP 0, iP 1, iP 0, iP 0, iP 1]),
    (7, .cells true 0 [iP 1, iP 1, iP 1])],
   [],
   .tuple ⟨[iP 2, iP 0]⟩⟩
theorem pb16_ok : pb16.okS EE.G = true := by kernel_rfl
theorem pb16_run : evT EE paT 1000000000 (.call pb16.f pb16.args) pb16.heap (keptK pb16) = some (.bool true) := by kernel_rfl
theorem pb16_h : pb16.holds EE := ent_run envOk paT_holds _ _ pb16_ok pb16_run
-- decani/office.Falls, 10492 steps
noncomputable def pb37 : Ent :=
  ⟨9, [.agg ⟨[iP 2, iP 0, .slice (some ⟨6, 0, none⟩) 4 18446744073709551616, .slice (some ⟨7, 0, none⟩) 1 1, .bool false, .slice none 0 0, .bool false, .slice none 0 0]⟩, iP 0, iP 0], 8,
   gB ++ [(6, .cells true 4 [iP 1, iP 1, iP 1, iP 1, iP 1, iP 1, iP 1, iP 1, iP 1, iP 1, iP 1, iP 1]),
    (7, .cells true 0 [iP 1, iP 1, iP 1])],
   [],
   .tuple ⟨[.agg ⟨[iP 1, iP 1]⟩, iP 0]⟩⟩
theorem pb37_ok : pb37.okS EE.G = true := by kernel_rfl
theorem pb37_run : evT EE paT 1000000000 (.call pb37.f pb37.args) pb37.heap (keptK pb37) = some (.bool true) := by kernel_rfl
theorem pb37_h : pb37.holds EE := ent_run envOk paT_holds _ _ pb37_ok pb37_run
-- decani/office.Falls, 8031 steps
noncomputable def pb58 : Ent :=
  ⟨9, [.agg ⟨[iP 3, iP 0, .slice (some ⟨6, 0, none⟩) 2 18446744073709551616, .slice (some ⟨7, 0, none⟩) 1 1, .bool false, .slice none 0 0, .bool false, .slice none 0 0]⟩, iP 0, iP 0], 8,
   gB ++ [(6, .cells true 4 [iP 2, iP 2, iP 1, iP 2, iP 2, iP 1]),
    (7, .cells true 0 [iP 1, iP 1, iP 1])],
   [],
   .tuple ⟨[.agg ⟨[iP 2, iP 2]⟩, iP 0]⟩⟩
theorem pb58_ok : pb58.okS EE.G = true := by kernel_rfl
theorem pb58_run : evT EE paT 1000000000 (.call pb58.f pb58.args) pb58.heap (keptK pb58) = some (.bool true) := by kernel_rfl
theorem pb58_h : pb58.holds EE := ent_run envOk paT_holds _ _ pb58_ok pb58_run
-- decani/office.Kept, 10781 steps
noncomputable def pb79 : Ent :=
  ⟨11, [.agg ⟨[iP 3, iP 0, .slice (some ⟨6, 0, none⟩) 3 18446744073709551616, .slice (some ⟨7, 0, none⟩) 1 1, .bool false, .slice none 0 0, .bool false, .slice none 0 0]⟩, iP 0, iP 2], 8,
   gB ++ [(6, .cells true 4 [iP 1, iP 1, iP 1, iP 1, iP 1, iP 1, iP 1, iP 1, iP 1]),
    (7, .cells true 0 [iP 1, iP 1, iP 1])],
   [],
   .tuple ⟨[iP 0, iP 0]⟩⟩
theorem pb79_ok : pb79.okS EE.G = true := by kernel_rfl
theorem pb79_run : evT EE paT 1000000000 (.call pb79.f pb79.args) pb79.heap (keptK pb79) = some (.bool true) := by kernel_rfl
theorem pb79_h : pb79.holds EE := ent_run envOk paT_holds _ _ pb79_ok pb79_run
-- decani/office.Chief, 13479 steps
noncomputable def pb100 : Ent :=
  ⟨14, [.agg ⟨[iP 3, iP 0, .slice (some ⟨6, 0, none⟩) 4 18446744073709551616, .slice (some ⟨7, 0, none⟩) 1 1, .bool false, .slice none 0 0, .bool false, .slice none 0 0]⟩, iP 0, iP 1], 8,
   gB ++ [(6, .cells true 4 [iP 1, iP 1, iP 1, iP 1, iP 1, iP 1, iP 1, iP 1, iP 1, iP 1, iP 1, iP 1]),
    (7, .cells true 0 [iP 1, iP 1, iP 1])],
   [.cells true 2 [iP 0]],
   .tuple ⟨[.slice (some ⟨8, 0, none⟩) 1 18446744073709551616, iP 0]⟩⟩
theorem pb100_ok : pb100.okS EE.G = true := by kernel_rfl
theorem pb100_run : evT EE paT 1000000000 (.call pb100.f pb100.args) pb100.heap (keptK pb100) = some (.bool true) := by kernel_rfl
theorem pb100_h : pb100.holds EE := ent_run envOk paT_holds _ _ pb100_ok pb100_run
-- decani/office.Falls, 7166 steps
noncomputable def pb121 : Ent :=
  ⟨9, [.agg ⟨[iP 4, iP 0, .slice (some ⟨6, 0, none⟩) 1 18446744073709551616, .slice (some ⟨7, 0, none⟩) 1 1, .bool false, .slice none 0 0, .bool false, .slice none 0 0]⟩, iP 0, iP 0], 8,
   gB ++ [(6, .cells true 4 [iP 3, iP 3, iP 1]),
    (7, .cells true 0 [iP 1, iP 1, iP 1])],
   [],
   .tuple ⟨[.agg ⟨[iP 3, iP 3]⟩, iP 0]⟩⟩
theorem pb121_ok : pb121.okS EE.G = true := by kernel_rfl
theorem pb121_run : evT EE paT 1000000000 (.call pb121.f pb121.args) pb121.heap (keptK pb121) = some (.bool true) := by kernel_rfl
theorem pb121_h : pb121.holds EE := ent_run envOk paT_holds _ _ pb121_ok pb121_run
-- decani/office.Kept, 9428 steps
noncomputable def pb142 : Ent :=
  ⟨11, [.agg ⟨[iP 4, iP 0, .slice (some ⟨6, 0, none⟩) 2 18446744073709551616, .slice (some ⟨7, 0, none⟩) 1 1, .bool false, .slice none 0 0, .bool false, .slice none 0 0]⟩, iP 0, iP 0], 8,
   gB ++ [(6, .cells true 4 [iP 3, iP 3, iP 1, iP 3, iP 3, iP 1]),
    (7, .cells true 0 [iP 1, iP 1, iP 1])],
   [],
   .tuple ⟨[iP 2, iP 0]⟩⟩
theorem pb142_ok : pb142.okS EE.G = true := by kernel_rfl
theorem pb142_run : evT EE paT 1000000000 (.call pb142.f pb142.args) pb142.heap (keptK pb142) = some (.bool true) := by kernel_rfl
theorem pb142_h : pb142.holds EE := ent_run envOk paT_holds _ _ pb142_ok pb142_run
-- decani/office.Chief, 12445 steps
noncomputable def pb163 : Ent :=
  ⟨14, [.agg ⟨[iP 4, iP 0, .slice (some ⟨6, 0, none⟩) 3 18446744073709551616, .slice (some ⟨7, 0, none⟩) 1 1, .bool false, .slice none 0 0, .bool false, .slice none 0 0]⟩, iP 0, iP 3], 8,
   gB ++ [(6, .cells true 4 [iP 1, iP 1, iP 1, iP 1, iP 1, iP 1, iP 1, iP 1, iP 1]),
    (7, .cells true 0 [iP 1, iP 1, iP 1])],
   [.cells true 2 [iP 2]],
   .tuple ⟨[.slice (some ⟨8, 0, none⟩) 1 18446744073709551616, iP 0]⟩⟩
theorem pb163_ok : pb163.okS EE.G = true := by kernel_rfl
theorem pb163_run : evT EE paT 1000000000 (.call pb163.f pb163.args) pb163.heap (keptK pb163) = some (.bool true) := by kernel_rfl
theorem pb163_h : pb163.holds EE := ent_run envOk paT_holds _ _ pb163_ok pb163_run
-- decani/office.Chief, 16045 steps
noncomputable def pb184 : Ent :=
  ⟨14, [.agg ⟨[iP 4, iP 0, .slice (some ⟨6, 0, none⟩) 4 18446744073709551616, .slice (some ⟨7, 0, none⟩) 1 1, .bool false, .slice none 0 0, .bool false, .slice none 0 0]⟩, iP 0, iP 1], 8,
   gB ++ [(6, .cells true 4 [iP 0, iP 0, iP 1, iP 0, iP 0, iP 1, iP 0, iP 0, iP 1, iP 0, iP 0, iP 1]),
    (7, .cells true 0 [iP 1, iP 1, iP 1])],
   [.cells true 2 [iP 1]],
   .tuple ⟨[.slice (some ⟨8, 0, none⟩) 1 18446744073709551616, iP 0]⟩⟩
theorem pb184_ok : pb184.okS EE.G = true := by kernel_rfl
theorem pb184_run : evT EE paT 1000000000 (.call pb184.f pb184.args) pb184.heap (keptK pb184) = some (.bool true) := by kernel_rfl
theorem pb184_h : pb184.holds EE := ent_run envOk paT_holds _ _ pb184_ok pb184_run
-- decani/office.Falls, 15462 steps
noncomputable def pb205 : Ent :=
  ⟨9, [.agg ⟨[iP 4, iP 0, .slice (some ⟨6, 0, none⟩) 4 18446744073709551616, .slice (some ⟨7, 0, none⟩) 1 1, .bool false, .slice none 0 0, .bool false, .slice none 0 0]⟩, iP 0, iP 1], 8,
   gB ++ [(6, .cells true 4 [iP 2, iP 2, iP 1, iP 2, iP 2, iP 1, iP 2, iP 2, iP 1, iP 2, iP 2, iP 1]),
    (7, .cells true 0 [iP 1, iP 1, iP 1])],
   [],
   .tuple ⟨[.agg ⟨[iP 3, iP 3]⟩, iP 0]⟩⟩
theorem pb205_ok : pb205.okS EE.G = true := by kernel_rfl
theorem pb205_run : evT EE paT 1000000000 (.call pb205.f pb205.args) pb205.heap (keptK pb205) = some (.bool true) := by kernel_rfl
theorem pb205_h : pb205.holds EE := ent_run envOk paT_holds _ _ pb205_ok pb205_run
-- decani/office.Chief, 8235 steps
noncomputable def pb226 : Ent :=
  ⟨14, [.agg ⟨[iP 5, iP 0, .slice (some ⟨6, 0, none⟩) 1 18446744073709551616, .slice (some ⟨7, 0, none⟩) 1 1, .bool false, .slice none 0 0, .bool false, .slice none 0 0]⟩, iP 0, iP 1], 8,
   gB ++ [(6, .cells true 4 [iP 1, iP 1, iP 1]),
    (7, .cells true 0 [iP 1, iP 1, iP 1])],
   [.cells true 2 [iP 0]],
   .tuple ⟨[.slice (some ⟨8, 0, none⟩) 1 18446744073709551616, iP 0]⟩⟩
theorem pb226_ok : pb226.okS EE.G = true := by kernel_rfl
theorem pb226_run : evT EE paT 1000000000 (.call pb226.f pb226.args) pb226.heap (keptK pb226) = some (.bool true) := by kernel_rfl
theorem pb226_h : pb226.holds EE := ent_run envOk paT_holds _ _ pb226_ok pb226_run
-- decani/office.Chief, 10859 steps
noncomputable def pb247 : Ent :=
  ⟨14, [.agg ⟨[iP 5, iP 0, .slice (some ⟨6, 0, none⟩) 2 18446744073709551616, .slice (some ⟨7, 0, none⟩) 1 1, .bool false, .slice none 0 0, .bool false, .slice none 0 0]⟩, iP 0, iP 2], 8,
   gB ++ [(6, .cells true 4 [iP 1, iP 1, iP 1, iP 1, iP 1, iP 1]),
    (7, .cells true 0 [iP 1, iP 1, iP 1])],
   [.cells true 2 [iP 1]],
   .tuple ⟨[.slice (some ⟨8, 0, none⟩) 1 18446744073709551616, iP 0]⟩⟩
theorem pb247_ok : pb247.okS EE.G = true := by kernel_rfl
theorem pb247_run : evT EE paT 1000000000 (.call pb247.f pb247.args) pb247.heap (keptK pb247) = some (.bool true) := by kernel_rfl
theorem pb247_h : pb247.holds EE := ent_run envOk paT_holds _ _ pb247_ok pb247_run
-- decani/office.Falls, 14138 steps
noncomputable def pb268 : Ent :=
  ⟨9, [.agg ⟨[iP 5, iP 0, .slice (some ⟨6, 0, none⟩) 3 18446744073709551616, .slice (some ⟨7, 0, none⟩) 1 1, .bool false, .slice none 0 0, .bool false, .slice none 0 0]⟩, iP 0, iP 1], 8,
   gB ++ [(6, .cells true 4 [iP 0, iP 0, iP 1, iP 0, iP 0, iP 1, iP 0, iP 0, iP 1]),
    (7, .cells true 0 [iP 1, iP 1, iP 1])],
   [],
   .tuple ⟨[.agg ⟨[iP 1, iP 1]⟩, iP 0]⟩⟩
theorem pb268_ok : pb268.okS EE.G = true := by kernel_rfl
theorem pb268_run : evT EE paT 1000000000 (.call pb268.f pb268.args) pb268.heap (keptK pb268) = some (.bool true) := by kernel_rfl
theorem pb268_h : pb268.holds EE := ent_run envOk paT_holds _ _ pb268_ok pb268_run
-- decani/office.Chief, 14065 steps
noncomputable def pb289 : Ent :=
  ⟨14, [.agg ⟨[iP 5, iP 0, .slice (some ⟨6, 0, none⟩) 3 18446744073709551616, .slice (some ⟨7, 0, none⟩) 1 1, .bool false, .slice none 0 0, .bool false, .slice none 0 0]⟩, iP 0, iP 4], 8,
   gB ++ [(6, .cells true 4 [iP 2, iP 2, iP 1, iP 2, iP 2, iP 1, iP 2, iP 2, iP 1]),
    (7, .cells true 0 [iP 1, iP 1, iP 1])],
   [.cells true 2 [iP 2]],
   .tuple ⟨[.slice (some ⟨8, 0, none⟩) 1 18446744073709551616, iP 0]⟩⟩
theorem pb289_ok : pb289.okS EE.G = true := by kernel_rfl
theorem pb289_run : evT EE paT 1000000000 (.call pb289.f pb289.args) pb289.heap (keptK pb289) = some (.bool true) := by kernel_rfl
theorem pb289_h : pb289.holds EE := ent_run envOk paT_holds _ _ pb289_ok pb289_run
-- decani/office.Chief, 17853 steps
noncomputable def pb310 : Ent :=
  ⟨14, [.agg ⟨[iP 5, iP 0, .slice (some ⟨6, 0, none⟩) 4 18446744073709551616, .slice (some ⟨7, 0, none⟩) 1 1, .bool false, .slice none 0 0, .bool false, .slice none 0 0]⟩, iP 0, iP 1], 8,
   gB ++ [(6, .cells true 4 [iP 0, iP 0, iP 1, iP 0, iP 0, iP 1, iP 0, iP 0, iP 1, iP 0, iP 0, iP 1]),
    (7, .cells true 0 [iP 1, iP 1, iP 1])],
   [.cells true 2 [iP 1]],
   .tuple ⟨[.slice (some ⟨8, 0, none⟩) 1 18446744073709551616, iP 0]⟩⟩
theorem pb310_ok : pb310.okS EE.G = true := by kernel_rfl
theorem pb310_run : evT EE paT 1000000000 (.call pb310.f pb310.args) pb310.heap (keptK pb310) = some (.bool true) := by kernel_rfl
theorem pb310_h : pb310.holds EE := ent_run envOk paT_holds _ _ pb310_ok pb310_run
-- decani/office.Chief, 17765 steps
noncomputable def pb331 : Ent :=
  ⟨14, [.agg ⟨[iP 5, iP 0, .slice (some ⟨6, 0, none⟩) 4 18446744073709551616, .slice (some ⟨7, 0, none⟩) 1 1, .bool false, .slice none 0 0, .bool false, .slice none 0 0]⟩, iP 0, iP 2], 8,
   gB ++ [(6, .cells true 4 [iP 2, iP 2, iP 1, iP 2, iP 2, iP 1, iP 2, iP 2, iP 1, iP 2, iP 2, iP 1]),
    (7, .cells true 0 [iP 1, iP 1, iP 1])],
   [.cells true 2 [iP 0]],
   .tuple ⟨[.slice (some ⟨8, 0, none⟩) 1 18446744073709551616, iP 0]⟩⟩
theorem pb331_ok : pb331.okS EE.G = true := by kernel_rfl
theorem pb331_run : evT EE paT 1000000000 (.call pb331.f pb331.args) pb331.heap (keptK pb331) = some (.bool true) := by kernel_rfl
theorem pb331_h : pb331.holds EE := ent_run envOk paT_holds _ _ pb331_ok pb331_run
-- decani/office.Chief, 15843 steps
noncomputable def pb352 : Ent :=
  ⟨14, [.agg ⟨[iP 5, iP 0, .slice (some ⟨6, 0, none⟩) 4 18446744073709551616, .slice (some ⟨7, 0, none⟩) 1 1, .bool false, .slice none 0 0, .bool false, .slice none 0 0]⟩, iP 0, iP 4], 8,
   gB ++ [(6, .cells true 4 [iP 4, iP 4, iP 1, iP 4, iP 4, iP 1, iP 4, iP 4, iP 1, iP 4, iP 4, iP 1]),
    (7, .cells true 0 [iP 1, iP 1, iP 1])],
   [.cells true 2 [iP 0]],
   .tuple ⟨[.slice (some ⟨8, 0, none⟩) 1 18446744073709551616, iP 0]⟩⟩
theorem pb352_ok : pb352.okS EE.G = true := by kernel_rfl
theorem pb352_run : evT EE paT 1000000000 (.call pb352.f pb352.args) pb352.heap (keptK pb352) = some (.bool true) := by kernel_rfl
theorem pb352_h : pb352.holds EE := ent_run envOk paT_holds _ _ pb352_ok pb352_run
-- decani/office.Chief, 9479 steps
noncomputable def pb373 : Ent :=
  ⟨14, [.agg ⟨[iP 6, iP 0, .slice (some ⟨6, 0, none⟩) 1 18446744073709551616, .slice (some ⟨7, 0, none⟩) 1 1, .bool false, .slice none 0 0, .bool false, .slice none 0 0]⟩, iP 0, iP 4], 8,
   gB ++ [(6, .cells true 4 [iP 4, iP 4, iP 1]),
    (7, .cells true 0 [iP 1, iP 1, iP 1])],
   [.cells true 2 [iP 0]],
   .tuple ⟨[.slice (some ⟨8, 0, none⟩) 1 18446744073709551616, iP 0]⟩⟩
theorem pb373_ok : pb373.okS EE.G = true := by kernel_rfl
theorem pb373_run : evT EE paT 1000000000 (.call pb373.f pb373.args) pb373.heap (keptK pb373) = some (.bool true) := by kernel_rfl
theorem pb373_h : pb373.holds EE := ent_run envOk paT_holds _ _ pb373_ok pb373_run
-- decani/office.Chief, 12291 steps
noncomputable def pb394 : Ent :=
  ⟨14, [.agg ⟨[iP 6, iP 0, .slice (some ⟨6, 0, none⟩) 2 18446744073709551616, .slice (some ⟨7, 0, none⟩) 1 1, .bool false, .slice none 0 0, .bool false, .slice none 0 0]⟩, iP 0, iP 3], 8,
   gB ++ [(6, .cells true 4 [iP 2, iP 2, iP 1, iP 2, iP 2, iP 1]),
    (7, .cells true 0 [iP 1, iP 1, iP 1])],
   [.cells true 2 [iP 1]],
   .tuple ⟨[.slice (some ⟨8, 0, none⟩) 1 18446744073709551616, iP 0]⟩⟩
theorem pb394_ok : pb394.okS EE.G = true := by kernel_rfl
theorem pb394_run : evT EE paT 1000000000 (.call pb394.f pb394.args) pb394.heap (keptK pb394) = some (.bool true) := by kernel_rfl
theorem pb394_h : pb394.holds EE := ent_run envOk paT_holds _ _ pb394_ok pb394_run
-- decani/office.Falls, 15758 steps
noncomputable def pb415 : Ent :=
  ⟨9, [.agg ⟨[iP 6, iP 0, .slice (some ⟨6, 0, none⟩) 3 18446744073709551616, .slice (some ⟨7, 0, none⟩) 1 1, .bool false, .slice none 0 0, .bool false, .slice none 0 0]⟩, iP 0, iP 1], 8,
   gB ++ [(6, .cells true 4 [iP 0, iP 0, iP 1, iP 0, iP 0, iP 1, iP 0, iP 0, iP 1]),
    (7, .cells true 0 [iP 1, iP 1, iP 1])],
   [],
   .tuple ⟨[.agg ⟨[iP 1, iP 1]⟩, iP 0]⟩⟩
theorem pb415_ok : pb415.okS EE.G = true := by kernel_rfl
theorem pb415_run : evT EE paT 1000000000 (.call pb415.f pb415.args) pb415.heap (keptK pb415) = some (.bool true) := by kernel_rfl
theorem pb415_h : pb415.holds EE := ent_run envOk paT_holds _ _ pb415_ok pb415_run
-- decani/office.Falls, 15911 steps
noncomputable def pb436 : Ent :=
  ⟨9, [.agg ⟨[iP 6, iP 0, .slice (some ⟨6, 0, none⟩) 3 18446744073709551616, .slice (some ⟨7, 0, none⟩) 1 1, .bool false, .slice none 0 0, .bool false, .slice none 0 0]⟩, iP 0, iP 2], 8,
   gB ++ [(6, .cells true 4 [iP 2, iP 2, iP 1, iP 2, iP 2, iP 1, iP 2, iP 2, iP 1]),
    (7, .cells true 0 [iP 1, iP 1, iP 1])],
   [],
   .tuple ⟨[.agg ⟨[iP 4, iP 4]⟩, iP 0]⟩⟩
theorem pb436_ok : pb436.okS EE.G = true := by kernel_rfl
theorem pb436_run : evT EE paT 1000000000 (.call pb436.f pb436.args) pb436.heap (keptK pb436) = some (.bool true) := by kernel_rfl
theorem pb436_h : pb436.holds EE := ent_run envOk paT_holds _ _ pb436_ok pb436_run
-- decani/office.Kept, 15118 steps
noncomputable def pb457 : Ent :=
  ⟨11, [.agg ⟨[iP 6, iP 0, .slice (some ⟨6, 0, none⟩) 3 18446744073709551616, .slice (some ⟨7, 0, none⟩) 1 1, .bool false, .slice none 0 0, .bool false, .slice none 0 0]⟩, iP 0, iP 0], 8,
   gB ++ [(6, .cells true 4 [iP 5, iP 5, iP 1, iP 5, iP 5, iP 1, iP 5, iP 5, iP 1]),
    (7, .cells true 0 [iP 1, iP 1, iP 1])],
   [],
   .tuple ⟨[iP 2, iP 0]⟩⟩
theorem pb457_ok : pb457.okS EE.G = true := by kernel_rfl
theorem pb457_run : evT EE paT 1000000000 (.call pb457.f pb457.args) pb457.heap (keptK pb457) = some (.bool true) := by kernel_rfl
theorem pb457_h : pb457.holds EE := ent_run envOk paT_holds _ _ pb457_ok pb457_run
-- decani/office.Falls, 19785 steps
noncomputable def pb478 : Ent :=
  ⟨9, [.agg ⟨[iP 6, iP 0, .slice (some ⟨6, 0, none⟩) 4 18446744073709551616, .slice (some ⟨7, 0, none⟩) 1 1, .bool false, .slice none 0 0, .bool false, .slice none 0 0]⟩, iP 0, iP 1], 8,
   gB ++ [(6, .cells true 4 [iP 1, iP 1, iP 1, iP 1, iP 1, iP 1, iP 1, iP 1, iP 1, iP 1, iP 1, iP 1]),
    (7, .cells true 0 [iP 1, iP 1, iP 1])],
   [],
   .tuple ⟨[.agg ⟨[iP 2, iP 2]⟩, iP 0]⟩⟩
theorem pb478_ok : pb478.okS EE.G = true := by kernel_rfl
theorem pb478_run : evT EE paT 1000000000 (.call pb478.f pb478.args) pb478.heap (keptK pb478) = some (.bool true) := by kernel_rfl
theorem pb478_h : pb478.holds EE := ent_run envOk paT_holds _ _ pb478_ok pb478_run
-- decani/office.Falls, 19748 steps
noncomputable def pb499 : Ent :=
  ⟨9, [.agg ⟨[iP 6, iP 0, .slice (some ⟨6, 0, none⟩) 4 18446744073709551616, .slice (some ⟨7, 0, none⟩) 1 1, .bool false, .slice none 0 0, .bool false, .slice none 0 0]⟩, iP 0, iP 0], 8,
   gB ++ [(6, .cells true 4 [iP 3, iP 3, iP 1, iP 3, iP 3, iP 1, iP 3, iP 3, iP 1, iP 3, iP 3, iP 1]),
    (7, .cells true 0 [iP 1, iP 1, iP 1])],
   [],
   .tuple ⟨[.agg ⟨[iP 3, iP 3]⟩, iP 0]⟩⟩
theorem pb499_ok : pb499.okS EE.G = true := by kernel_rfl
theorem pb499_run : evT EE paT 1000000000 (.call pb499.f pb499.args) pb499.heap (keptK pb499) = some (.bool true) := by kernel_rfl
theorem pb499_h : pb499.holds EE := ent_run envOk paT_holds _ _ pb499_ok pb499_run
-- decani/office.Falls, 17928 steps
noncomputable def pb520 : Ent :=
  ⟨9, [.agg ⟨[iP 6, iP 0, .slice (some ⟨6, 0, none⟩) 4 18446744073709551616, .slice (some ⟨7, 0, none⟩) 1 1, .bool false, .slice none 0 0, .bool false, .slice none 0 0]⟩, iP 0, iP 0], 8,
   gB ++ [(6, .cells true 4 [iP 5, iP 5, iP 1, iP 5, iP 5, iP 1, iP 5, iP 5, iP 1, iP 5, iP 5, iP 1]),
    (7, .cells true 0 [iP 1, iP 1, iP 1])],
   [],
   .tuple ⟨[.agg ⟨[iP 5, iP 5]⟩, iP 0]⟩⟩
theorem pb520_ok : pb520.okS EE.G = true := by kernel_rfl
theorem pb520_run : evT EE paT 1000000000 (.call pb520.f pb520.args) pb520.heap (keptK pb520) = some (.bool true) := by kernel_rfl
theorem pb520_h : pb520.holds EE := ent_run envOk paT_holds _ _ pb520_ok pb520_run
-- decani/office.Kept, 6763 steps
noncomputable def pb541 : Ent :=
  ⟨11, [.agg ⟨[iP 1, iP 0, .slice (some ⟨6, 0, none⟩) 3 18446744073709551616, .slice (some ⟨7, 0, none⟩) 1 1, .bool false, .slice none 0 0, .bool false, .slice none 0 0]⟩, iP 0, iP 0], 8,
   gB ++ [(6, .cells true 4 [iP 0, iP 0, iP 1, iP 0, iP 0, iP 1, iP 0, iP 0, iP 1]),
    (7, .cells true 0 [iP 1, iP 1, iP 1])],
   [],
   .tuple ⟨[iP 2, iP 0]⟩⟩
theorem pb541_ok : pb541.okS EE.G = true := by kernel_rfl
theorem pb541_run : evT EE paT 1000000000 (.call pb541.f pb541.args) pb541.heap (keptK pb541) = some (.bool true) := by kernel_rfl
theorem pb541_h : pb541.holds EE := ent_run envOk paT_holds _ _ pb541_ok pb541_run
-- decani/office.Chief, 6475 steps
noncomputable def pb550 : Ent :=
  ⟨14, [.agg ⟨[iP 2, iP 0, .slice (some ⟨6, 0, none⟩) 2 18446744073709551616, .slice (some ⟨7, 0, none⟩) 1 1, .bool false, .slice none 0 0, .bool false, .slice none 0 0]⟩, iP 0, iP 1], 8,
   gB ++ [(6, .cells true 4 [iP 1, iP 1, iP 1, iP 1, iP 1, iP 1]),
    (7, .cells true 0 [iP 1, iP 1, iP 1])],
   [.cells true 2 [iP 0]],
   .tuple ⟨[.slice (some ⟨8, 0, none⟩) 1 18446744073709551616, iP 0]⟩⟩
theorem pb550_ok : pb550.okS EE.G = true := by kernel_rfl
theorem pb550_run : evT EE paT 1000000000 (.call pb550.f pb550.args) pb550.heap (keptK pb550) = some (.bool true) := by kernel_rfl
theorem pb550_h : pb550.holds EE := ent_run envOk paT_holds _ _ pb550_ok pb550_run
end Go.Proofs.YtmjpnohpmfmdlaaGreatDoor
