/- Known calls, part 8: what single calls hand back, at small heaps, by the kernel's own run of the evaluator. No conditions. -/
import Derived.Test.YtmjpnohpmfmdlaaGreatDoorPAT
set_option linter.all false
namespace Go.Proofs.YtmjpnohpmfmdlaaGreatDoor
open Go.Ai
set_option maxRecDepth 1000000
-- decani/office.Falls, 8562 steps
noncomputable def pb8 : Ent :=
  ⟨9, [.agg ⟨[iP 1, iP 0, .slice (some ⟨6, 0, none⟩) 4 18446744073709551616, .slice (some ⟨7, 0, none⟩) 1 1, .bool false, .slice none 0 0, .bool false, .slice none 0 0]⟩, iP 0, iP 2], 8,
   gB ++ [(6, .cells true 4 [iP 0, iP 0, iP 1, iP 0, iP 0, iP 1, iP 0, iP 0, iP 1, iP 0, iP 0, iP 1]),
    (7, .cells true 0 [iP 1, iP 1, iP 1])],
   [],
   .tuple ⟨[.agg ⟨[iP 0, iP 0]⟩, iP 4]⟩⟩
theorem pb8_ok : pb8.okS EE.G = true := by kernel_rfl
theorem pb8_run : evT EE paT 1000000000 (.call pb8.f pb8.args) pb8.heap (keptK pb8) = some (.bool true) := by kernel_rfl
theorem pb8_h : pb8.holds EE := ent_run envOk paT_holds _ _ pb8_ok pb8_run
-- decani/office.Chief, 11671 steps
noncomputable def pb29 : Ent :=
  ⟨14, [.agg ⟨[iP 2, iP 0, .slice (some ⟨6, 0, none⟩) 4 18446744073709551616, .slice (some ⟨7, 0, none⟩) 1 1, .bool false, .slice none 0 0, .bool false, .slice none 0 0]⟩, iP 0, iP 0], 8,
   gB ++ [(6, .cells true 4 [iP 0, iP 0, iP 1, iP 0, iP 0, iP 1, iP 0, iP 0, iP 1, iP 0, iP 0, iP 1]),
    (7, .cells true 0 [iP 1, iP 1, iP 1])],
   [.cells true 2 [iP 0]],
   .tuple ⟨[.slice (some ⟨8, 0, none⟩) 1 18446744073709551616, iP 0]⟩⟩
theorem pb29_ok : pb29.okS EE.G = true := by kernel_rfl
theorem pb29_run : evT EE paT 1000000000 (.call pb29.f pb29.args) pb29.heap (keptK pb29) = some (.bool true) := by kernel_rfl
theorem pb29_h : pb29.holds EE := ent_run envOk paT_holds _ _ pb29_ok pb29_run
-- decani/office.Kept, 7982 steps
noncomputable def pb50 : Ent :=
  ⟨11, [.agg ⟨[iP 3, iP 0, .slice (some ⟨6, 0, none⟩) 2 18446744073709551616, .slice (some ⟨7, 0, none⟩) 1 1, .bool false, .slice none 0 0, .bool false, .slice none 0 0]⟩, iP 0, iP 1], 8,
   gB ++ [(6, .cells true 4 [iP 0, iP 0, iP 1, iP 0, iP 0, iP 1]),
    (7, .cells true 0 [iP 1, iP 1, iP 1])],
   [],
   .tuple ⟨[iP 2, iP 0]⟩⟩
theorem pb50_ok : pb50.okS EE.G = true := by kernel_rfl
theorem pb50_run : evT EE paT 1000000000 (.call pb50.f pb50.args) pb50.heap (keptK pb50) = some (.bool true) := by kernel_rfl
theorem pb50_h : pb50.holds EE := ent_run envOk paT_holds _ _ pb50_ok pb50_run
-- decani/office.Chief, 10825 steps
noncomputable def pb71 : Ent :=
  ⟨14, [.agg ⟨[iP 3, iP 0, .slice (some ⟨6, 0, none⟩) 3 18446744073709551616, .slice (some ⟨7, 0, none⟩) 1 1, .bool false, .slice none 0 0, .bool false, .slice none 0 0]⟩, iP 0, iP 2], 8,
   gB ++ [(6, .cells true 4 [iP 0, iP 0, iP 1, iP 0, iP 0, iP 1, iP 0, iP 0, iP 1]),
    (7, .cells true 0 [iP 1, iP 1, iP 1])],
   [.cells true 2 [iP 2]],
   .tuple ⟨[.slice (some ⟨8, 0, none⟩) 1 18446744073709551616, iP 0]⟩⟩
theorem pb71_ok : pb71.okS EE.G = true := by kernel_rfl
theorem pb71_run : evT EE paT 1000000000 (.call pb71.f pb71.args) pb71.heap (keptK pb71) = some (.bool true) := by kernel_rfl
theorem pb71_h : pb71.holds EE := ent_run envOk paT_holds _ _ pb71_ok pb71_run
-- decani/office.Chief, 14149 steps
noncomputable def pb92 : Ent :=
  ⟨14, [.agg ⟨[iP 3, iP 0, .slice (some ⟨6, 0, none⟩) 4 18446744073709551616, .slice (some ⟨7, 0, none⟩) 1 1, .bool false, .slice none 0 0, .bool false, .slice none 0 0]⟩, iP 0, iP 1], 8,
   gB ++ [(6, .cells true 4 [iP 0, iP 0, iP 1, iP 0, iP 0, iP 1, iP 0, iP 0, iP 1, iP 0, iP 0, iP 1]),
    (7, .cells true 0 [iP 1, iP 1, iP 1])],
   [.cells true 2 [iP 1]],
   .tuple ⟨[.slice (some ⟨8, 0, none⟩) 1 18446744073709551616, iP 0]⟩⟩
theorem pb92_ok : pb92.okS EE.G = true := by kernel_rfl
theorem pb92_run : evT EE paT 1000000000 (.call pb92.f pb92.args) pb92.heap (keptK pb92) = some (.bool true) := by kernel_rfl
theorem pb92_h : pb92.holds EE := ent_run envOk paT_holds _ _ pb92_ok pb92_run
-- decani/office.Falls, 12280 steps
noncomputable def pb113 : Ent :=
  ⟨9, [.agg ⟨[iP 3, iP 0, .slice (some ⟨6, 0, none⟩) 4 18446744073709551616, .slice (some ⟨7, 0, none⟩) 1 1, .bool false, .slice none 0 0, .bool false, .slice none 0 0]⟩, iP 0, iP 2], 8,
   gB ++ [(6, .cells true 4 [iP 2, iP 2, iP 1, iP 2, iP 2, iP 1, iP 2, iP 2, iP 1, iP 2, iP 2, iP 1]),
    (7, .cells true 0 [iP 1, iP 1, iP 1])],
   [],
   .tuple ⟨[.agg ⟨[iP 0, iP 0]⟩, iP 4]⟩⟩
theorem pb113_ok : pb113.okS EE.G = true := by kernel_rfl
theorem pb113_run : evT EE paT 1000000000 (.call pb113.f pb113.args) pb113.heap (keptK pb113) = some (.bool true) := by kernel_rfl
theorem pb113_h : pb113.holds EE := ent_run envOk paT_holds _ _ pb113_ok pb113_run
-- decani/office.Chief, 9427 steps
noncomputable def pb134 : Ent :=
  ⟨14, [.agg ⟨[iP 4, iP 0, .slice (some ⟨6, 0, none⟩) 2 18446744073709551616, .slice (some ⟨7, 0, none⟩) 1 1, .bool false, .slice none 0 0, .bool false, .slice none 0 0]⟩, iP 0, iP 2], 8,
   gB ++ [(6, .cells true 4 [iP 1, iP 1, iP 1, iP 1, iP 1, iP 1]),
    (7, .cells true 0 [iP 1, iP 1, iP 1])],
   [.cells true 2 [iP 1]],
   .tuple ⟨[.slice (some ⟨8, 0, none⟩) 1 18446744073709551616, iP 0]⟩⟩
theorem pb134_ok : pb134.okS EE.G = true := by kernel_rfl
theorem pb134_run : evT EE paT 1000000000 (.call pb134.f pb134.args) pb134.heap (keptK pb134) = some (.bool true) := by kernel_rfl
theorem pb134_h : pb134.holds EE := ent_run envOk paT_holds _ _ pb134_ok pb134_run
-- decani/office.Falls, 12518 steps
noncomputable def pb155 : Ent :=
  ⟨9, [.agg ⟨[iP 4, iP 0, .slice (some ⟨6, 0, none⟩) 3 18446744073709551616, .slice (some ⟨7, 0, none⟩) 1 1, .bool false, .slice none 0 0, .bool false, .slice none 0 0]⟩, iP 0, iP 0], 8,
   gB ++ [(6, .cells true 4 [iP 1, iP 1, iP 1, iP 1, iP 1, iP 1, iP 1, iP 1, iP 1]),
    (7, .cells true 0 [iP 1, iP 1, iP 1])],
   [],
   .tuple ⟨[.agg ⟨[iP 1, iP 1]⟩, iP 0]⟩⟩
theorem pb155_ok : pb155.okS EE.G = true := by kernel_rfl
theorem pb155_run : evT EE paT 1000000000 (.call pb155.f pb155.args) pb155.heap (keptK pb155) = some (.bool true) := by kernel_rfl
theorem pb155_h : pb155.holds EE := ent_run envOk paT_holds _ _ pb155_ok pb155_run
-- decani/office.Kept, 11782 steps
noncomputable def pb176 : Ent :=
  ⟨11, [.agg ⟨[iP 4, iP 0, .slice (some ⟨6, 0, none⟩) 3 18446744073709551616, .slice (some ⟨7, 0, none⟩) 1 1, .bool false, .slice none 0 0, .bool false, .slice none 0 0]⟩, iP 0, iP 1], 8,
   gB ++ [(6, .cells true 4 [iP 3, iP 3, iP 1, iP 3, iP 3, iP 1, iP 3, iP 3, iP 1]),
    (7, .cells true 0 [iP 1, iP 1, iP 1])],
   [],
   .tuple ⟨[iP 0, iP 0]⟩⟩
theorem pb176_ok : pb176.okS EE.G = true := by kernel_rfl
theorem pb176_run : evT EE paT 1000000000 (.call pb176.f pb176.args) pb176.heap (keptK pb176) = some (.bool true) := by kernel_rfl
theorem pb176_h : pb176.holds EE := ent_run envOk paT_holds _ _ pb176_ok pb176_run
-- decani/office.Falls, 16132 steps
noncomputable def pb197 : Ent :=
  ⟨9, [.agg ⟨[iP 4, iP 0, .slice (some ⟨6, 0, none⟩) 4 18446744073709551616, .slice (some ⟨7, 0, none⟩) 1 1, .bool false, .slice none 0 0, .bool false, .slice none 0 0]⟩, iP 0, iP 2], 8,
   gB ++ [(6, .cells true 4 [iP 1, iP 1, iP 1, iP 1, iP 1, iP 1, iP 1, iP 1, iP 1, iP 1, iP 1, iP 1]),
    (7, .cells true 0 [iP 1, iP 1, iP 1])],
   [],
   .tuple ⟨[.agg ⟨[iP 3, iP 3]⟩, iP 0]⟩⟩
theorem pb197_ok : pb197.okS EE.G = true := by kernel_rfl
theorem pb197_run : evT EE paT 1000000000 (.call pb197.f pb197.args) pb197.heap (keptK pb197) = some (.bool true) := by kernel_rfl
theorem pb197_h : pb197.holds EE := ent_run envOk paT_holds _ _ pb197_ok pb197_run
-- decani/office.Kept, 14130 steps
noncomputable def pb218 : Ent :=
  ⟨11, [.agg ⟨[iP 4, iP 0, .slice (some ⟨6, 0, none⟩) 4 18446744073709551616, .slice (some ⟨7, 0, none⟩) 1 1, .bool false, .slice none 0 0, .bool false, .slice none 0 0]⟩, iP 0, iP 2], 8,
   gB ++ [(6, .cells true 4 [iP 3, iP 3, iP 1, iP 3, iP 3, iP 1, iP 3, iP 3, iP 1, iP 3, iP 3, iP 1]),
    (7, .cells true 0 [iP 1, iP 1, iP 1])],
   [],
   .tuple ⟨[iP 0, iP 0]⟩⟩
theorem pb218_ok : pb218.okS EE.G = true := by kernel_rfl
theorem pb218_run : evT EE paT 1000000000 (.call pb218.f pb218.args) pb218.heap (keptK pb218) = some (.bool true) := by kernel_rfl
theorem pb218_h : pb218.holds EE := ent_run envOk paT_holds _ _ pb218_ok pb218_run
-- decani/office.Falls, 10932 steps
noncomputable def pb239 : Ent :=
  ⟨9, [.agg ⟨[iP 5, iP 0, .slice (some ⟨6, 0, none⟩) 2 18446744073709551616, .slice (some ⟨7, 0, none⟩) 1 1, .bool false, .slice none 0 0, .bool false, .slice none 0 0]⟩, iP 0, iP 1], 8,
   gB ++ [(6, .cells true 4 [iP 0, iP 0, iP 1, iP 0, iP 0, iP 1]),
    (7, .cells true 0 [iP 1, iP 1, iP 1])],
   [],
   .tuple ⟨[.agg ⟨[iP 1, iP 1]⟩, iP 0]⟩⟩
theorem pb239_ok : pb239.okS EE.G = true := by kernel_rfl
theorem pb239_run : evT EE paT 1000000000 (.call pb239.f pb239.args) pb239.heap (keptK pb239) = some (.bool true) := by kernel_rfl
theorem pb239_h : pb239.holds EE := ent_run envOk paT_holds _ _ pb239_ok pb239_run
-- decani/office.Falls, 10997 steps
noncomputable def pb260 : Ent :=
  ⟨9, [.agg ⟨[iP 5, iP 0, .slice (some ⟨6, 0, none⟩) 2 18446744073709551616, .slice (some ⟨7, 0, none⟩) 1 1, .bool false, .slice none 0 0, .bool false, .slice none 0 0]⟩, iP 0, iP 0], 8,
   gB ++ [(6, .cells true 4 [iP 4, iP 4, iP 1, iP 4, iP 4, iP 1]),
    (7, .cells true 0 [iP 1, iP 1, iP 1])],
   [],
   .tuple ⟨[.agg ⟨[iP 4, iP 4]⟩, iP 0]⟩⟩
theorem pb260_ok : pb260.okS EE.G = true := by kernel_rfl
theorem pb260_run : evT EE paT 1000000000 (.call pb260.f pb260.args) pb260.heap (keptK pb260) = some (.bool true) := by kernel_rfl
theorem pb260_h : pb260.holds EE := ent_run envOk paT_holds _ _ pb260_ok pb260_run
-- decani/office.Falls, 14189 steps
noncomputable def pb281 : Ent :=
  ⟨9, [.agg ⟨[iP 5, iP 0, .slice (some ⟨6, 0, none⟩) 3 18446744073709551616, .slice (some ⟨7, 0, none⟩) 1 1, .bool false, .slice none 0 0, .bool false, .slice none 0 0]⟩, iP 0, iP 0], 8,
   gB ++ [(6, .cells true 4 [iP 2, iP 2, iP 1, iP 2, iP 2, iP 1, iP 2, iP 2, iP 1]),
    (7, .cells true 0 [iP 1, iP 1, iP 1])],
   [],
   .tuple ⟨[.agg ⟨[iP 2, iP 2]⟩, iP 0]⟩⟩
theorem pb281_ok : pb281.okS EE.G = true := by kernel_rfl
theorem pb281_run : evT EE paT 1000000000 (.call pb281.f pb281.args) pb281.heap (keptK pb281) = some (.bool true) := by kernel_rfl
theorem pb281_h : pb281.holds EE := ent_run envOk paT_holds _ _ pb281_ok pb281_run
-- decani/office.Kept, 13453 steps
noncomputable def pb302 : Ent :=
  ⟨11, [.agg ⟨[iP 5, iP 0, .slice (some ⟨6, 0, none⟩) 3 18446744073709551616, .slice (some ⟨7, 0, none⟩) 1 1, .bool false, .slice none 0 0, .bool false, .slice none 0 0]⟩, iP 0, iP 1], 8,
   gB ++ [(6, .cells true 4 [iP 4, iP 4, iP 1, iP 4, iP 4, iP 1, iP 4, iP 4, iP 1]),
    (7, .cells true 0 [iP 1, iP 1, iP 1])],
   [],
   .tuple ⟨[iP 0, iP 0]⟩⟩
theorem pb302_ok : pb302.okS EE.G = true := by kernel_rfl
theorem pb302_run : evT EE paT 1000000000 (.call pb302.f pb302.args) pb302.heap (keptK pb302) = some (.bool true) := by kernel_rfl
theorem pb302_h : pb302.holds EE := ent_run envOk paT_holds _ _ pb302_ok pb302_run
-- decani/office.Falls, 18028 steps
noncomputable def pb323 : Ent :=
  ⟨9, [.agg ⟨[iP 5, iP 0, .slice (some ⟨6, 0, none⟩) 4 18446744073709551616, .slice (some ⟨7, 0, none⟩) 1 1, .bool false, .slice none 0 0, .bool false, .slice none 0 0]⟩, iP 0, iP 2], 8,
   gB ++ [(6, .cells true 4 [iP 1, iP 1, iP 1, iP 1, iP 1, iP 1, iP 1, iP 1, iP 1, iP 1, iP 1, iP 1]),
    (7, .cells true 0 [iP 1, iP 1, iP 1])],
   [],
   .tuple ⟨[.agg ⟨[iP 3, iP 3]⟩, iP 0]⟩⟩
theorem pb323_ok : pb323.okS EE.G = true := by kernel_rfl
theorem pb323_run : evT EE paT 1000000000 (.call pb323.f pb323.args) pb323.heap (keptK pb323) = some (.bool true) := by kernel_rfl
theorem pb323_h : pb323.holds EE := ent_run envOk paT_holds _ _ pb323_ok pb323_run
-- decani/office.Kept, 17235 steps
noncomputable def pb344 : Ent :=
  ⟨11, [.agg ⟨[iP 5, iP 0, .slice (some ⟨6, 0, none⟩) 4 18446744073709551616, .slice (some ⟨7, 0, none⟩) 1 1, .bool false, .slice none 0 0, .bool false, .slice none 0 0]⟩, iP 0, iP 1], 8,
   gB ++ [(6, .cells true 4 [iP 3, iP 3, iP 1, iP 3, iP 3, iP 1, iP 3, iP 3, iP 1, iP 3, iP 3, iP 1]),
    (7, .cells true 0 [iP 1, iP 1, iP 1])],
   [],
   .tuple ⟨[iP 2, iP 0]⟩⟩
theorem pb344_ok : pb344.okS EE.G = true := by kernel_rfl
theorem pb344_run : evT EE paT 1000000000 (.call pb344.f pb344.args) pb344.heap (keptK pb344) = some (.bool true) := by kernel_rfl
theorem pb344_h : pb344.holds EE := ent_run envOk paT_holds _ _ pb344_ok pb344_run
-- decani/office.Falls, 9603 steps
noncomputable def pb365 : Ent :=
  ⟨9, [.agg ⟨[iP 6, iP 0, .slice (some ⟨6, 0, none⟩) 1 18446744073709551616, .slice (some ⟨7, 0, none⟩) 1 1, .bool false, .slice none 0 0, .bool false, .slice none 0 0]⟩, iP 0, iP 0], 8,
   gB ++ [(6, .cells true 4 [iP 2, iP 2, iP 1]),
    (7, .cells true 0 [iP 1, iP 1, iP 1])],
   [],
   .tuple ⟨[.agg ⟨[iP 2, iP 2]⟩, iP 0]⟩⟩
theorem pb365_ok : pb365.okS EE.G = true := by kernel_rfl
theorem pb365_run : evT EE paT 1000000000 (.call pb365.f pb365.args) pb365.heap (keptK pb365) = some (.bool true) := by kernel_rfl
theorem pb365_h : pb365.holds EE := ent_run envOk paT_holds _ _ pb365_ok pb365_run
-- decani/office.Falls, 12415 steps
noncomputable def pb386 : Ent :=
  ⟨9, [.agg ⟨[iP 6, iP 0, .slice (some ⟨6, 0, none⟩) 2 18446744073709551616, .slice (some ⟨7, 0, none⟩) 1 1, .bool false, .slice none 0 0, .bool false, .slice none 0 0]⟩, iP 0, iP 1], 8,
   gB ++ [(6, .cells true 4 [iP 1, iP 1, iP 1, iP 1, iP 1, iP 1]),
    (7, .cells true 0 [iP 1, iP 1, iP 1])],
   [],
   .tuple ⟨[.agg ⟨[iP 2, iP 2]⟩, iP 0]⟩⟩
theorem pb386_ok : pb386.okS EE.G = true := by kernel_rfl
theorem pb386_run : evT EE paT 1000000000 (.call pb386.f pb386.args) pb386.heap (keptK pb386) = some (.bool true) := by kernel_rfl
theorem pb386_h : pb386.holds EE := ent_run envOk paT_holds _ _ pb386_ok pb386_run
-- decani/office.Falls, 12480 steps
noncomputable def pb407 : Ent :=
  ⟨9, [.agg ⟨[iP 6, iP 0, .slice (some ⟨6, 0, none⟩) 2 18446744073709551616, .slice (some ⟨7, 0, none⟩) 1 1, .bool false, .slice none 0 0, .bool false, .slice none 0 0]⟩, iP 0, iP 0], 8,
   gB ++ [(6, .cells true 4 [iP 5, iP 5, iP 1, iP 5, iP 5, iP 1]),
    (7, .cells true 0 [iP 1, iP 1, iP 1])],
   [],
   .tuple ⟨[.agg ⟨[iP 5, iP 5]⟩, iP 0]⟩⟩
theorem pb407_ok : pb407.okS EE.G = true := by kernel_rfl
theorem pb407_run : evT EE paT 1000000000 (.call pb407.f pb407.args) pb407.heap (keptK pb407) = some (.bool true) := by kernel_rfl
theorem pb407_h : pb407.holds EE := ent_run envOk paT_holds _ _ pb407_ok pb407_run
-- decani/office.Kept, 15774 steps
noncomputable def pb428 : Ent :=
  ⟨11, [.agg ⟨[iP 6, iP 0, .slice (some ⟨6, 0, none⟩) 3 18446744073709551616, .slice (some ⟨7, 0, none⟩) 1 1, .bool false, .slice none 0 0, .bool false, .slice none 0 0]⟩, iP 0, iP 2], 8,
   gB ++ [(6, .cells true 4 [iP 1, iP 1, iP 1, iP 1, iP 1, iP 1, iP 1, iP 1, iP 1]),
    (7, .cells true 0 [iP 1, iP 1, iP 1])],
   [],
   .tuple ⟨[iP 2, iP 0]⟩⟩
theorem pb428_ok : pb428.okS EE.G = true := by kernel_rfl
theorem pb428_run : evT EE paT 1000000000 (.call pb428.f pb428.args) pb428.heap (keptK pb428) = some (.bool true) := by kernel_rfl
theorem pb428_h : pb428.holds EE := ent_run envOk paT_holds _ _ pb428_ok pb428_run
-- decani/office.Kept, 15737 steps
noncomputable def pb449 : Ent :=
  ⟨11, [.agg ⟨[iP 6, iP 0, .slice (some ⟨6, 0, none⟩) 3 18446744073709551616, .slice (some ⟨7, 0, none⟩) 1 1, .bool false, .slice none 0 0, .bool false, .slice none 0 0]⟩, iP 0, iP 0], 8,
   gB ++ [(6, .cells true 4 [iP 4, iP 4, iP 1, iP 4, iP 4, iP 1, iP 4, iP 4, iP 1]),
    (7, .cells true 0 [iP 1, iP 1, iP 1])],
   [],
   .tuple ⟨[iP 2, iP 0]⟩⟩
theorem pb449_ok : pb449.okS EE.G = true := by kernel_rfl
theorem pb449_run : evT EE paT 1000000000 (.call pb449.f pb449.args) pb449.heap (keptK pb449) = some (.bool true) := by kernel_rfl
theorem pb449_h : pb449.holds EE := ent_run envOk paT_holds _ _ pb449_ok pb449_run
-- decani/office.Kept, 19699 steps
noncomputable def pb470 : Ent :=
  ⟨11, [.agg ⟨[iP 6, iP 0, .slice (some ⟨6, 0, none⟩) 4 18446744073709551616, .slice (some ⟨7, 0, none⟩) 1 1, .bool false, .slice none 0 0, .bool false, .slice none 0 0]⟩, iP 0, iP 2], 8,
   gB ++ [(6, .cells true 4 [iP 0, iP 0, iP 1, iP 0, iP 0, iP 1, iP 0, iP 0, iP 1, iP 0, iP 0, iP 1]),
    (7, .cells true 0 [iP 1, iP 1, iP 1])],
   [],
   .tuple ⟨[iP 2, iP 0]⟩⟩
theorem pb470_ok : pb470.okS EE.G = true := by kernel_rfl
theorem pb470_run : evT EE paT 1000000000 (.call pb470.f pb470.args) pb470.heap (keptK pb470) = some (.bool true) := by kernel_rfl
theorem pb470_h : pb470.holds EE := ent_run envOk paT_holds _ _ pb470_ok pb470_run
-- decani/office.Kept, 19750 steps
noncomputable def pb491 : Ent :=
  ⟨11, [.agg ⟨[iP 6, iP 0, .slice (some ⟨6, 0, none⟩) 4 18446744073709551616, .slice (some ⟨7, 0, none⟩) 1 1, .bool false, .slice none 0 0, .bool false, .slice none 0 0]⟩, iP 0, iP 1], 8,
   gB ++ [(6, .cells true 4 [iP 2, iP 2, iP 1, iP 2, iP 2, iP 1, iP 2, iP 2, iP 1, iP 2, iP 2, iP 1]),
    (7, .cells true 0 [iP 1, iP 1, iP 1])],
   [],
   .tuple ⟨[iP 2, iP 0]⟩⟩
theorem pb491_ok : pb491.okS EE.G = true := by kernel_rfl
theorem pb491_run : evT EE paT 1000000000 (.call pb491.f pb491.args) pb491.heap (keptK pb491) = some (.bool true) := by kernel_rfl
theorem pb491_h : pb491.holds EE := ent_run envOk paT_holds _ _ pb491_ok pb491_run
-- decani/office.Chief, 18903 steps
noncomputable def pb512 : Ent :=
  ⟨14, [.agg ⟨[iP 6, iP 0, .slice (some ⟨6, 0, none⟩) 4 18446744073709551616, .slice (some ⟨7, 0, none⟩) 1 1, .bool false, .slice none 0 0, .bool false, .slice none 0 0]⟩, iP 0, iP 4], 8,
   gB ++ [(6, .cells true 4 [iP 4, iP 4, iP 1, iP 4, iP 4, iP 1, iP 4, iP 4, iP 1, iP 4, iP 4, iP 1]),
    (7, .cells true 0 [iP 1, iP 1, iP 1])],
   [.cells true 2 [iP 0]],
   .tuple ⟨[.slice (some ⟨8, 0, none⟩) 1 18446744073709551616, iP 0]⟩⟩
theorem pb512_ok : pb512.okS EE.G = true := by kernel_rfl
theorem pb512_run : evT EE paT 1000000000 (.call pb512.f pb512.args) pb512.heap (keptK pb512) = some (.bool true) := by kernel_rfl
theorem pb512_h : pb512.holds EE := ent_run envOk paT_holds _ _ pb512_ok pb512_run
-- decani/office.Kept, 6978 steps
noncomputable def pb533 : Ent :=
  ⟨11, [.agg ⟨[iP 4, iP 0, .slice (some ⟨6, 0, none⟩) 1 18446744073709551616, .slice (some ⟨7, 0, none⟩) 1 1, .bool false, .slice none 0 0, .bool false, .slice none 0 0]⟩, iP 0, iP 0], 8,
   gB ++ [(6, .cells true 4 [iP 1, iP 1, iP 1]),
    (7, .cells true 0 [iP 1, iP 1, iP 1])],
   [],
   .tuple ⟨[iP 2, iP 0]⟩⟩
theorem pb533_ok : pb533.okS EE.G = true := by kernel_rfl
theorem pb533_run : evT EE paT 1000000000 (.call pb533.f pb533.args) pb533.heap (keptK pb533) = some (.bool true) := by kernel_rfl
theorem pb533_h : pb533.holds EE := ent_run envOk paT_holds _ _ pb533_ok pb533_run
-- decani/office.Chief, 5747 steps
noncomputable def pb558 : Ent :=
  ⟨14, [.agg ⟨[iP 3, iP 0, .slice (some ⟨6, 0, none⟩) 1 18446744073709551616, .slice (some ⟨7, 0, none⟩) 1 1, .bool false, .slice none 0 0, .bool false, .slice none 0 0]⟩, iP 0, iP 1], 8,
   gB ++ [(6, .cells true 4 [iP 1, iP 1, iP 1]),
    (7, .cells true 0 [iP 1, iP 1, iP 1])],
   [.cells true 2 [iP 0]],
   .tuple ⟨[.slice (some ⟨8, 0, none⟩) 1 18446744073709551616, iP 0]⟩⟩
theorem pb558_ok : pb558.okS EE.G = true := by kernel_rfl
theorem pb558_run : evT EE paT 1000000000 (.call pb558.f pb558.args) pb558.heap (keptK pb558) = some (.bool true) := by kernel_rfl
theorem pb558_h : pb558.holds EE := ent_run envOk paT_holds _ _ pb558_ok pb558_run
end Go.Proofs.YtmjpnohpmfmdlaaGreatDoor
