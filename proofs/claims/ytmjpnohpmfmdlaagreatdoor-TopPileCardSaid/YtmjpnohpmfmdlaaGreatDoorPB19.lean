/- Known calls, part 19: what single calls hand back, at small heaps, by the kernel's own run of the evaluator. No conditions. -/
import Derived.Test.YtmjpnohpmfmdlaaGreatDoorPAT
set_option linter.all false
namespace Go.Proofs.YtmjpnohpmfmdlaaGreatDoor
open Go.Ai
set_option maxRecDepth 1000000
-- decani/office.Kept, 9110 steps
noncomputable def pb19 : Ent :=
  ⟨11, [.agg ⟨[iP 2, iP 0, .slice (some ⟨6, 0, none⟩) 3 18446744073709551616, .slice (some ⟨7, 0, none⟩) 1 1, .bool false, .slice none 0 0, .bool false, .slice none 0 0]⟩, iP 0, iP 2], 8,
   gB ++ [(6, .cells true 4 [iP 0, iP 0, iP 1, iP 0, iP 0, iP 1, iP 0, iP 0, iP 1]),
    (7, .cells true 0 [iP 1, iP 1, iP 1])],
   [],
   .tuple ⟨[iP 0, iP 0]⟩⟩
theorem pb19_ok : pb19.okS EE.G = true := by kernel_rfl
theorem pb19_run : evT EE paT 1000000000 (.call pb19.f pb19.args) pb19.heap (keptK pb19) = some (.bool true) := by kernel_rfl
theorem pb19_h : pb19.holds EE := ent_run envOk paT_holds _ _ pb19_ok pb19_run
-- decani/office.Falls, 10421 steps
noncomputable def pb40 : Ent :=
  ⟨9, [.agg ⟨[iP 2, iP 0, .slice (some ⟨6, 0, none⟩) 4 18446744073709551616, .slice (some ⟨7, 0, none⟩) 1 1, .bool false, .slice none 0 0, .bool false, .slice none 0 0]⟩, iP 0, iP 1], 8,
   gB ++ [(6, .cells true 4 [iP 1, iP 1, iP 1, iP 1, iP 1, iP 1, iP 1, iP 1, iP 1, iP 1, iP 1, iP 1]),
    (7, .cells true 0 [iP 1, iP 1, iP 1])],
   [],
   .tuple ⟨[.agg ⟨[iP 0, iP 0]⟩, iP 4]⟩⟩
theorem pb40_ok : pb40.okS EE.G = true := by kernel_rfl
theorem pb40_run : evT EE paT 1000000000 (.call pb40.f pb40.args) pb40.heap (keptK pb40) = some (.bool true) := by kernel_rfl
theorem pb40_h : pb40.holds EE := ent_run envOk paT_holds _ _ pb40_ok pb40_run
-- decani/office.Falls, 7960 steps
noncomputable def pb61 : Ent :=
  ⟨9, [.agg ⟨[iP 3, iP 0, .slice (some ⟨6, 0, none⟩) 2 18446744073709551616, .slice (some ⟨7, 0, none⟩) 1 1, .bool false, .slice none 0 0, .bool false, .slice none 0 0]⟩, iP 0, iP 1], 8,
   gB ++ [(6, .cells true 4 [iP 2, iP 2, iP 1, iP 2, iP 2, iP 1]),
    (7, .cells true 0 [iP 1, iP 1, iP 1])],
   [],
   .tuple ⟨[.agg ⟨[iP 0, iP 0]⟩, iP 4]⟩⟩
theorem pb61_ok : pb61.okS EE.G = true := by kernel_rfl
theorem pb61_run : evT EE paT 1000000000 (.call pb61.f pb61.args) pb61.heap (keptK pb61) = some (.bool true) := by kernel_rfl
theorem pb61_h : pb61.holds EE := ent_run envOk paT_holds _ _ pb61_ok pb61_run
-- decani/office.Chief, 10067 steps
noncomputable def pb82 : Ent :=
  ⟨14, [.agg ⟨[iP 3, iP 0, .slice (some ⟨6, 0, none⟩) 3 18446744073709551616, .slice (some ⟨7, 0, none⟩) 1 1, .bool false, .slice none 0 0, .bool false, .slice none 0 0]⟩, iP 0, iP 2], 8,
   gB ++ [(6, .cells true 4 [iP 2, iP 2, iP 1, iP 2, iP 2, iP 1, iP 2, iP 2, iP 1]),
    (7, .cells true 0 [iP 1, iP 1, iP 1])],
   [.cells true 2 [iP 0]],
   .tuple ⟨[.slice (some ⟨8, 0, none⟩) 1 18446744073709551616, iP 0]⟩⟩
theorem pb82_ok : pb82.okS EE.G = true := by kernel_rfl
theorem pb82_run : evT EE paT 1000000000 (.call pb82.f pb82.args) pb82.heap (keptK pb82) = some (.bool true) := by kernel_rfl
theorem pb82_h : pb82.holds EE := ent_run envOk paT_holds _ _ pb82_ok pb82_run
-- decani/office.Chief, 13479 steps
noncomputable def pb103 : Ent :=
  ⟨14, [.agg ⟨[iP 3, iP 0, .slice (some ⟨6, 0, none⟩) 4 18446744073709551616, .slice (some ⟨7, 0, none⟩) 1 1, .bool false, .slice none 0 0, .bool false, .slice none 0 0]⟩, iP 0, iP 2], 8,
   gB ++ [(6, .cells true 4 [iP 1, iP 1, iP 1, iP 1, iP 1, iP 1, iP 1, iP 1, iP 1, iP 1, iP 1, iP 1]),
    (7, .cells true 0 [iP 1, iP 1, iP 1])],
   [.cells true 2 [iP 1]],
   .tuple ⟨[.slice (some ⟨8, 0, none⟩) 1 18446744073709551616, iP 0]⟩⟩
theorem pb103_ok : pb103.okS EE.G = true := by kernel_rfl
theorem pb103_run : evT EE paT 1000000000 (.call pb103.f pb103.args) pb103.heap (keptK pb103) = some (.bool true) := by kernel_rfl
theorem pb103_h : pb103.holds EE := ent_run envOk paT_holds _ _ pb103_ok pb103_run
-- decani/office.Kept, 9363 steps
noncomputable def pb124 : Ent :=
  ⟨11, [.agg ⟨[iP 4, iP 0, .slice (some ⟨6, 0, none⟩) 2 18446744073709551616, .slice (some ⟨7, 0, none⟩) 1 1, .bool false, .slice none 0 0, .bool false, .slice none 0 0]⟩, iP 0, iP 0], 8,
   gB ++ [(6, .cells true 4 [iP 0, iP 0, iP 1, iP 0, iP 0, iP 1]),
    (7, .cells true 0 [iP 1, iP 1, iP 1])],
   [],
   .tuple ⟨[iP 2, iP 0]⟩⟩
theorem pb124_ok : pb124.okS EE.G = true := by kernel_rfl
theorem pb124_run : evT EE paT 1000000000 (.call pb124.f pb124.args) pb124.heap (keptK pb124) = some (.bool true) := by kernel_rfl
theorem pb124_h : pb124.holds EE := ent_run envOk paT_holds _ _ pb124_ok pb124_run
-- decani/office.Kept, 9434 steps
noncomputable def pb145 : Ent :=
  ⟨11, [.agg ⟨[iP 4, iP 0, .slice (some ⟨6, 0, none⟩) 2 18446744073709551616, .slice (some ⟨7, 0, none⟩) 1 1, .bool false, .slice none 0 0, .bool false, .slice none 0 0]⟩, iP 0, iP 1], 8,
   gB ++ [(6, .cells true 4 [iP 3, iP 3, iP 1, iP 3, iP 3, iP 1]),
    (7, .cells true 0 [iP 1, iP 1, iP 1])],
   [],
   .tuple ⟨[iP 0, iP 0]⟩⟩
theorem pb145_ok : pb145.okS EE.G = true := by kernel_rfl
theorem pb145_run : evT EE paT 1000000000 (.call pb145.f pb145.args) pb145.heap (keptK pb145) = some (.bool true) := by kernel_rfl
theorem pb145_h : pb145.holds EE := ent_run envOk paT_holds _ _ pb145_ok pb145_run
-- decani/office.Chief, 12357 steps
noncomputable def pb166 : Ent :=
  ⟨14, [.agg ⟨[iP 4, iP 0, .slice (some ⟨6, 0, none⟩) 3 18446744073709551616, .slice (some ⟨7, 0, none⟩) 1 1, .bool false, .slice none 0 0, .bool false, .slice none 0 0]⟩, iP 0, iP 2], 8,
   gB ++ [(6, .cells true 4 [iP 2, iP 2, iP 1, iP 2, iP 2, iP 1, iP 2, iP 2, iP 1]),
    (7, .cells true 0 [iP 1, iP 1, iP 1])],
   [.cells true 2 [iP 0]],
   .tuple ⟨[.slice (some ⟨8, 0, none⟩) 1 18446744073709551616, iP 0]⟩⟩
theorem pb166_ok : pb166.okS EE.G = true := by kernel_rfl
theorem pb166_run : evT EE paT 1000000000 (.call pb166.f pb166.args) pb166.heap (keptK pb166) = some (.bool true) := by kernel_rfl
theorem pb166_h : pb166.holds EE := ent_run envOk paT_holds _ _ pb166_ok pb166_run
-- decani/office.Chief, 16045 steps
noncomputable def pb187 : Ent :=
  ⟨14, [.agg ⟨[iP 4, iP 0, .slice (some ⟨6, 0, none⟩) 4 18446744073709551616, .slice (some ⟨7, 0, none⟩) 1 1, .bool false, .slice none 0 0, .bool false, .slice none 0 0]⟩, iP 0, iP 2], 8,
   gB ++ [(6, .cells true 4 [iP 0, iP 0, iP 1, iP 0, iP 0, iP 1, iP 0, iP 0, iP 1, iP 0, iP 0, iP 1]),
    (7, .cells true 0 [iP 1, iP 1, iP 1])],
   [.cells true 2 [iP 2]],
   .tuple ⟨[.slice (some ⟨8, 0, none⟩) 1 18446744073709551616, iP 0]⟩⟩
theorem pb187_ok : pb187.okS EE.G = true := by kernel_rfl
theorem pb187_run : evT EE paT 1000000000 (.call pb187.f pb187.args) pb187.heap (keptK pb187) = some (.bool true) := by kernel_rfl
theorem pb187_h : pb187.holds EE := ent_run envOk paT_holds _ _ pb187_ok pb187_run
-- decani/office.Falls, 15391 steps
noncomputable def pb208 : Ent :=
  ⟨9, [.agg ⟨[iP 4, iP 0, .slice (some ⟨6, 0, none⟩) 4 18446744073709551616, .slice (some ⟨7, 0, none⟩) 1 1, .bool false, .slice none 0 0, .bool false, .slice none 0 0]⟩, iP 0, iP 2], 8,
   gB ++ [(6, .cells true 4 [iP 2, iP 2, iP 1, iP 2, iP 2, iP 1, iP 2, iP 2, iP 1, iP 2, iP 2, iP 1]),
    (7, .cells true 0 [iP 1, iP 1, iP 1])],
   [],
   .tuple ⟨[.agg ⟨[iP 0, iP 0]⟩, iP 4]⟩⟩
theorem pb208_ok : pb208.okS EE.G = true := by kernel_rfl
theorem pb208_run : evT EE paT 1000000000 (.call pb208.f pb208.args) pb208.heap (keptK pb208) = some (.bool true) := by kernel_rfl
theorem pb208_h : pb208.holds EE := ent_run envOk paT_holds _ _ pb208_ok pb208_run
-- decani/office.Chief, 8235 steps
noncomputable def pb229 : Ent :=
  ⟨14, [.agg ⟨[iP 5, iP 0, .slice (some ⟨6, 0, none⟩) 1 18446744073709551616, .slice (some ⟨7, 0, none⟩) 1 1, .bool false, .slice none 0 0, .bool false, .slice none 0 0]⟩, iP 0, iP 2], 8,
   gB ++ [(6, .cells true 4 [iP 2, iP 2, iP 1]),
    (7, .cells true 0 [iP 1, iP 1, iP 1])],
   [.cells true 2 [iP 0]],
   .tuple ⟨[.slice (some ⟨8, 0, none⟩) 1 18446744073709551616, iP 0]⟩⟩
theorem pb229_ok : pb229.okS EE.G = true := by kernel_rfl
theorem pb229_run : evT EE paT 1000000000 (.call pb229.f pb229.args) pb229.heap (keptK pb229) = some (.bool true) := by kernel_rfl
theorem pb229_h : pb229.holds EE := ent_run envOk paT_holds _ _ pb229_ok pb229_run
-- decani/office.Chief, 10859 steps
noncomputable def pb250 : Ent :=
  ⟨14, [.agg ⟨[iP 5, iP 0, .slice (some ⟨6, 0, none⟩) 2 18446744073709551616, .slice (some ⟨7, 0, none⟩) 1 1, .bool false, .slice none 0 0, .bool false, .slice none 0 0]⟩, iP 0, iP 2], 8,
   gB ++ [(6, .cells true 4 [iP 2, iP 2, iP 1, iP 2, iP 2, iP 1]),
    (7, .cells true 0 [iP 1, iP 1, iP 1])],
   [.cells true 2 [iP 0]],
   .tuple ⟨[.slice (some ⟨8, 0, none⟩) 1 18446744073709551616, iP 0]⟩⟩
theorem pb250_ok : pb250.okS EE.G = true := by kernel_rfl
theorem pb250_run : evT EE paT 1000000000 (.call pb250.f pb250.args) pb250.heap (keptK pb250) = some (.bool true) := by kernel_rfl
theorem pb250_h : pb250.holds EE := ent_run envOk paT_holds _ _ pb250_ok pb250_run
-- decani/office.Falls, 14189 steps
noncomputable def pb271 : Ent :=
  ⟨9, [.agg ⟨[iP 5, iP 0, .slice (some ⟨6, 0, none⟩) 3 18446744073709551616, .slice (some ⟨7, 0, none⟩) 1 1, .bool false, .slice none 0 0, .bool false, .slice none 0 0]⟩, iP 0, iP 2], 8,
   gB ++ [(6, .cells true 4 [iP 0, iP 0, iP 1, iP 0, iP 0, iP 1, iP 0, iP 0, iP 1]),
    (7, .cells true 0 [iP 1, iP 1, iP 1])],
   [],
   .tuple ⟨[.agg ⟨[iP 2, iP 2]⟩, iP 0]⟩⟩
theorem pb271_ok : pb271.okS EE.G = true := by kernel_rfl
theorem pb271_run : evT EE paT 1000000000 (.call pb271.f pb271.args) pb271.heap (keptK pb271) = some (.bool true) := by kernel_rfl
theorem pb271_h : pb271.holds EE := ent_run envOk paT_holds _ _ pb271_ok pb271_run
-- decani/office.Chief, 13977 steps
noncomputable def pb292 : Ent :=
  ⟨14, [.agg ⟨[iP 5, iP 0, .slice (some ⟨6, 0, none⟩) 3 18446744073709551616, .slice (some ⟨7, 0, none⟩) 1 1, .bool false, .slice none 0 0, .bool false, .slice none 0 0]⟩, iP 0, iP 3], 8,
   gB ++ [(6, .cells true 4 [iP 3, iP 3, iP 1, iP 3, iP 3, iP 1, iP 3, iP 3, iP 1]),
    (7, .cells true 0 [iP 1, iP 1, iP 1])],
   [.cells true 2 [iP 0]],
   .tuple ⟨[.slice (some ⟨8, 0, none⟩) 1 18446744073709551616, iP 0]⟩⟩
theorem pb292_ok : pb292.okS EE.G = true := by kernel_rfl
theorem pb292_run : evT EE paT 1000000000 (.call pb292.f pb292.args) pb292.heap (keptK pb292) = some (.bool true) := by kernel_rfl
theorem pb292_h : pb292.holds EE := ent_run envOk paT_holds _ _ pb292_ok pb292_run
-- decani/office.Chief, 17853 steps
noncomputable def pb313 : Ent :=
  ⟨14, [.agg ⟨[iP 5, iP 0, .slice (some ⟨6, 0, none⟩) 4 18446744073709551616, .slice (some ⟨7, 0, none⟩) 1 1, .bool false, .slice none 0 0, .bool false, .slice none 0 0]⟩, iP 0, iP 2], 8,
   gB ++ [(6, .cells true 4 [iP 0, iP 0, iP 1, iP 0, iP 0, iP 1, iP 0, iP 0, iP 1, iP 0, iP 0, iP 1]),
    (7, .cells true 0 [iP 1, iP 1, iP 1])],
   [.cells true 2 [iP 2]],
   .tuple ⟨[.slice (some ⟨8, 0, none⟩) 1 18446744073709551616, iP 0]⟩⟩
theorem pb313_ok : pb313.okS EE.G = true := by kernel_rfl
theorem pb313_run : evT EE paT 1000000000 (.call pb313.f pb313.args) pb313.heap (keptK pb313) = some (.bool true) := by kernel_rfl
theorem pb313_h : pb313.holds EE := ent_run envOk paT_holds _ _ pb313_ok pb313_run
-- decani/office.Chief, 17765 steps
noncomputable def pb334 : Ent :=
  ⟨14, [.agg ⟨[iP 5, iP 0, .slice (some ⟨6, 0, none⟩) 4 18446744073709551616, .slice (some ⟨7, 0, none⟩) 1 1, .bool false, .slice none 0 0, .bool false, .slice none 0 0]⟩, iP 0, iP 3], 8,
   gB ++ [(6, .cells true 4 [iP 2, iP 2, iP 1, iP 2, iP 2, iP 1, iP 2, iP 2, iP 1, iP 2, iP 2, iP 1]),
    (7, .cells true 0 [iP 1, iP 1, iP 1])],
   [.cells true 2 [iP 1]],
   .tuple ⟨[.slice (some ⟨8, 0, none⟩) 1 18446744073709551616, iP 0]⟩⟩
theorem pb334_ok : pb334.okS EE.G = true := by kernel_rfl
theorem pb334_run : evT EE paT 1000000000 (.call pb334.f pb334.args) pb334.heap (keptK pb334) = some (.bool true) := by kernel_rfl
theorem pb334_h : pb334.holds EE := ent_run envOk paT_holds _ _ pb334_ok pb334_run
-- decani/office.Falls, 15998 steps
noncomputable def pb355 : Ent :=
  ⟨9, [.agg ⟨[iP 5, iP 0, .slice (some ⟨6, 0, none⟩) 4 18446744073709551616, .slice (some ⟨7, 0, none⟩) 1 1, .bool false, .slice none 0 0, .bool false, .slice none 0 0]⟩, iP 0, iP 2], 8,
   gB ++ [(6, .cells true 4 [iP 4, iP 4, iP 1, iP 4, iP 4, iP 1, iP 4, iP 4, iP 1, iP 4, iP 4, iP 1]),
    (7, .cells true 0 [iP 1, iP 1, iP 1])],
   [],
   .tuple ⟨[.agg ⟨[iP 0, iP 0]⟩, iP 4]⟩⟩
theorem pb355_ok : pb355.okS EE.G = true := by kernel_rfl
theorem pb355_run : evT EE paT 1000000000 (.call pb355.f pb355.args) pb355.heap (keptK pb355) = some (.bool true) := by kernel_rfl
theorem pb355_h : pb355.holds EE := ent_run envOk paT_holds _ _ pb355_ok pb355_run
-- decani/office.Chief, 9479 steps
noncomputable def pb376 : Ent :=
  ⟨14, [.agg ⟨[iP 6, iP 0, .slice (some ⟨6, 0, none⟩) 1 18446744073709551616, .slice (some ⟨7, 0, none⟩) 1 1, .bool false, .slice none 0 0, .bool false, .slice none 0 0]⟩, iP 0, iP 5], 8,
   gB ++ [(6, .cells true 4 [iP 5, iP 5, iP 1]),
    (7, .cells true 0 [iP 1, iP 1, iP 1])],
   [.cells true 2 [iP 0]],
   .tuple ⟨[.slice (some ⟨8, 0, none⟩) 1 18446744073709551616, iP 0]⟩⟩
theorem pb376_ok : pb376.okS EE.G = true := by kernel_rfl
theorem pb376_run : evT EE paT 1000000000 (.call pb376.f pb376.args) pb376.heap (keptK pb376) = some (.bool true) := by kernel_rfl
theorem pb376_h : pb376.holds EE := ent_run envOk paT_holds _ _ pb376_ok pb376_run
-- decani/office.Chief, 12291 steps
noncomputable def pb397 : Ent :=
  ⟨14, [.agg ⟨[iP 6, iP 0, .slice (some ⟨6, 0, none⟩) 2 18446744073709551616, .slice (some ⟨7, 0, none⟩) 1 1, .bool false, .slice none 0 0, .bool false, .slice none 0 0]⟩, iP 0, iP 3], 8,
   gB ++ [(6, .cells true 4 [iP 3, iP 3, iP 1, iP 3, iP 3, iP 1]),
    (7, .cells true 0 [iP 1, iP 1, iP 1])],
   [.cells true 2 [iP 0]],
   .tuple ⟨[.slice (some ⟨8, 0, none⟩) 1 18446744073709551616, iP 0]⟩⟩
theorem pb397_ok : pb397.okS EE.G = true := by kernel_rfl
theorem pb397_run : evT EE paT 1000000000 (.call pb397.f pb397.args) pb397.heap (keptK pb397) = some (.bool true) := by kernel_rfl
theorem pb397_h : pb397.holds EE := ent_run envOk paT_holds _ _ pb397_ok pb397_run
-- decani/office.Falls, 15809 steps
noncomputable def pb418 : Ent :=
  ⟨9, [.agg ⟨[iP 6, iP 0, .slice (some ⟨6, 0, none⟩) 3 18446744073709551616, .slice (some ⟨7, 0, none⟩) 1 1, .bool false, .slice none 0 0, .bool false, .slice none 0 0]⟩, iP 0, iP 2], 8,
   gB ++ [(6, .cells true 4 [iP 0, iP 0, iP 1, iP 0, iP 0, iP 1, iP 0, iP 0, iP 1]),
    (7, .cells true 0 [iP 1, iP 1, iP 1])],
   [],
   .tuple ⟨[.agg ⟨[iP 2, iP 2]⟩, iP 0]⟩⟩
theorem pb418_ok : pb418.okS EE.G = true := by kernel_rfl
theorem pb418_run : evT EE paT 1000000000 (.call pb418.f pb418.args) pb418.heap (keptK pb418) = some (.bool true) := by kernel_rfl
theorem pb418_h : pb418.holds EE := ent_run envOk paT_holds _ _ pb418_ok pb418_run
-- decani/office.Falls, 15860 steps
noncomputable def pb439 : Ent :=
  ⟨9, [.agg ⟨[iP 6, iP 0, .slice (some ⟨6, 0, none⟩) 3 18446744073709551616, .slice (some ⟨7, 0, none⟩) 1 1, .bool false, .slice none 0 0, .bool false, .slice none 0 0]⟩, iP 0, iP 0], 8,
   gB ++ [(6, .cells true 4 [iP 3, iP 3, iP 1, iP 3, iP 3, iP 1, iP 3, iP 3, iP 1]),
    (7, .cells true 0 [iP 1, iP 1, iP 1])],
   [],
   .tuple ⟨[.agg ⟨[iP 3, iP 3]⟩, iP 0]⟩⟩
theorem pb439_ok : pb439.okS EE.G = true := by kernel_rfl
theorem pb439_run : evT EE paT 1000000000 (.call pb439.f pb439.args) pb439.heap (keptK pb439) = some (.bool true) := by kernel_rfl
theorem pb439_h : pb439.holds EE := ent_run envOk paT_holds _ _ pb439_ok pb439_run
-- decani/office.Kept, 15124 steps
noncomputable def pb460 : Ent :=
  ⟨11, [.agg ⟨[iP 6, iP 0, .slice (some ⟨6, 0, none⟩) 3 18446744073709551616, .slice (some ⟨7, 0, none⟩) 1 1, .bool false, .slice none 0 0, .bool false, .slice none 0 0]⟩, iP 0, iP 1], 8,
   gB ++ [(6, .cells true 4 [iP 5, iP 5, iP 1, iP 5, iP 5, iP 1, iP 5, iP 5, iP 1]),
    (7, .cells true 0 [iP 1, iP 1, iP 1])],
   [],
   .tuple ⟨[iP 0, iP 0]⟩⟩
theorem pb460_ok : pb460.okS EE.G = true := by kernel_rfl
theorem pb460_run : evT EE paT 1000000000 (.call pb460.f pb460.args) pb460.heap (keptK pb460) = some (.bool true) := by kernel_rfl
theorem pb460_h : pb460.holds EE := ent_run envOk paT_holds _ _ pb460_ok pb460_run
-- decani/office.Falls, 19836 steps
noncomputable def pb481 : Ent :=
  ⟨9, [.agg ⟨[iP 6, iP 0, .slice (some ⟨6, 0, none⟩) 4 18446744073709551616, .slice (some ⟨7, 0, none⟩) 1 1, .bool false, .slice none 0 0, .bool false, .slice none 0 0]⟩, iP 0, iP 2], 8,
   gB ++ [(6, .cells true 4 [iP 1, iP 1, iP 1, iP 1, iP 1, iP 1, iP 1, iP 1, iP 1, iP 1, iP 1, iP 1]),
    (7, .cells true 0 [iP 1, iP 1, iP 1])],
   [],
   .tuple ⟨[.agg ⟨[iP 3, iP 3]⟩, iP 0]⟩⟩
theorem pb481_ok : pb481.okS EE.G = true := by kernel_rfl
theorem pb481_run : evT EE paT 1000000000 (.call pb481.f pb481.args) pb481.heap (keptK pb481) = some (.bool true) := by kernel_rfl
theorem pb481_h : pb481.holds EE := ent_run envOk paT_holds _ _ pb481_ok pb481_run
-- decani/office.Falls, 19799 steps
noncomputable def pb502 : Ent :=
  ⟨9, [.agg ⟨[iP 6, iP 0, .slice (some ⟨6, 0, none⟩) 4 18446744073709551616, .slice (some ⟨7, 0, none⟩) 1 1, .bool false, .slice none 0 0, .bool false, .slice none 0 0]⟩, iP 0, iP 1], 8,
   gB ++ [(6, .cells true 4 [iP 3, iP 3, iP 1, iP 3, iP 3, iP 1, iP 3, iP 3, iP 1, iP 3, iP 3, iP 1]),
    (7, .cells true 0 [iP 1, iP 1, iP 1])],
   [],
   .tuple ⟨[.agg ⟨[iP 4, iP 4]⟩, iP 0]⟩⟩
theorem pb502_ok : pb502.okS EE.G = true := by kernel_rfl
theorem pb502_run : evT EE paT 1000000000 (.call pb502.f pb502.args) pb502.heap (keptK pb502) = some (.bool true) := by kernel_rfl
theorem pb502_h : pb502.holds EE := ent_run envOk paT_holds _ _ pb502_ok pb502_run
-- decani/office.Falls, 17857 steps
noncomputable def pb523 : Ent :=
  ⟨9, [.agg ⟨[iP 6, iP 0, .slice (some ⟨6, 0, none⟩) 4 18446744073709551616, .slice (some ⟨7, 0, none⟩) 1 1, .bool false, .slice none 0 0, .bool false, .slice none 0 0]⟩, iP 0, iP 1], 8,
   gB ++ [(6, .cells true 4 [iP 5, iP 5, iP 1, iP 5, iP 5, iP 1, iP 5, iP 5, iP 1, iP 5, iP 5, iP 1]),
    (7, .cells true 0 [iP 1, iP 1, iP 1])],
   [],
   .tuple ⟨[.agg ⟨[iP 0, iP 0]⟩, iP 4]⟩⟩
theorem pb523_ok : pb523.okS EE.G = true := by kernel_rfl
theorem pb523_run : evT EE paT 1000000000 (.call pb523.f pb523.args) pb523.heap (keptK pb523) = some (.bool true) := by kernel_rfl
theorem pb523_h : pb523.holds EE := ent_run envOk paT_holds _ _ pb523_ok pb523_run
-- decani/office.Chief, 6563 steps
noncomputable def pb544 : Ent :=
  ⟨14, [.agg ⟨[iP 2, iP 0, .slice (some ⟨6, 0, none⟩) 2 18446744073709551616, .slice (some ⟨7, 0, none⟩) 1 1, .bool false, .slice none 0 0, .bool false, .slice none 0 0]⟩, iP 0, iP 0], 8,
   gB ++ [(6, .cells true 4 [iP 0, iP 0, iP 1, iP 0, iP 0, iP 1]),
    (7, .cells true 0 [iP 1, iP 1, iP 1])],
   [.cells true 2 [iP 0]],
   .tuple ⟨[.slice (some ⟨8, 0, none⟩) 1 18446744073709551616, iP 0]⟩⟩
theorem pb544_ok : pb544.okS EE.G = true := by kernel_rfl
theorem pb544_run : evT EE paT 1000000000 (.call pb544.f pb544.args) pb544.heap (keptK pb544) = some (.bool true) := by kernel_rfl
theorem pb544_h : pb544.holds EE := ent_run envOk paT_holds _ _ pb544_ok pb544_run
-- decani/office.Kept, 6550 steps
noncomputable def pb546 : Ent :=
  ⟨11, [.agg ⟨[iP 2, iP 0, .slice (some ⟨6, 0, none⟩) 2 18446744073709551616, .slice (some ⟨7, 0, none⟩) 1 1, .bool false, .slice none 0 0, .bool false, .slice none 0 0]⟩, iP 0, iP 1], 8,
   gB ++ [(6, .cells true 4 [iP 0, iP 0, iP 1, iP 0, iP 0, iP 1]),
    (7, .cells true 0 [iP 1, iP 1, iP 1])],
   [],
   .tuple ⟨[iP 2, iP 0]⟩⟩
theorem pb546_ok : pb546.okS EE.G = true := by kernel_rfl
theorem pb546_run : evT EE paT 1000000000 (.call pb546.f pb546.args) pb546.heap (keptK pb546) = some (.bool true) := by kernel_rfl
theorem pb546_h : pb546.holds EE := ent_run envOk paT_holds _ _ pb546_ok pb546_run
end Go.Proofs.YtmjpnohpmfmdlaaGreatDoor
