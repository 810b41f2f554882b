/- Known calls, part 12: what single calls hand back, at small heaps, by the kernel's own run of the evaluator. No conditions. -/
import Derived.Test.YtmjpnohpmfmdlaaGreatDoorPAT
set_option linter.all false
namespace Go.Proofs.YtmjpnohpmfmdlaaGreatDoor
open Go.Ai
set_option maxRecDepth 1000000
-- decani/office.Falls, 9139 steps
noncomputable def pb12 : Ent :=
  ⟨9, [.agg ⟨[iP 2, iP 0, .slice (some ⟨6, 0, none⟩) 3 18446744073709551616, .slice (some ⟨7, 0, none⟩) 1 1, .bool false, .slice none 0 0, .bool false, .slice none 0 0]⟩, iP 0, iP 0], 8,
   gB ++ [(6, .cells true 4 [iP 0, iP 0, iP 1, iP 0, iP 0, iP 1, iP 0, iP 0, iP 1]),
    (7, .cells true 0 [iP 1, iP 1, iP 1])],
   [],
   .tuple ⟨[.agg ⟨[iP 0, iP 0]⟩, iP 0]⟩⟩
theorem pb12_ok : pb12.okS EE.G = true := by kernel_rfl
theorem pb12_run : evT EE paT 1000000000 (.call pb12.f pb12.args) pb12.heap (keptK pb12) = some (.bool true) := by kernel_rfl
theorem pb12_h : pb12.holds EE := ent_run envOk paT_holds _ _ pb12_ok pb12_run
-- decani/office.Falls, 11673 steps
noncomputable def pb33 : Ent :=
  ⟨9, [.agg ⟨[iP 2, iP 0, .slice (some ⟨6, 0, none⟩) 4 18446744073709551616, .slice (some ⟨7, 0, none⟩) 1 1, .bool false, .slice none 0 0, .bool false, .slice none 0 0]⟩, iP 0, iP 2], 8,
   gB ++ [(6, .cells true 4 [iP 0, iP 0, iP 1, iP 0, iP 0, iP 1, iP 0, iP 0, iP 1, iP 0, iP 0, iP 1]),
    (7, .cells true 0 [iP 1, iP 1, iP 1])],
   [],
   .tuple ⟨[.agg ⟨[iP 0, iP 0]⟩, iP 4]⟩⟩
theorem pb33_ok : pb33.okS EE.G = true := by kernel_rfl
theorem pb33_run : evT EE paT 1000000000 (.call pb33.f pb33.args) pb33.heap (keptK pb33) = some (.bool true) := by kernel_rfl
theorem pb33_h : pb33.holds EE := ent_run envOk paT_holds _ _ pb33_ok pb33_run
-- decani/office.Chief, 7995 steps
noncomputable def pb54 : Ent :=
  ⟨14, [.agg ⟨[iP 3, iP 0, .slice (some ⟨6, 0, none⟩) 2 18446744073709551616, .slice (some ⟨7, 0, none⟩) 1 1, .bool false, .slice none 0 0, .bool false, .slice none 0 0]⟩, iP 0, iP 1], 8,
   gB ++ [(6, .cells true 4 [iP 1, iP 1, iP 1, iP 1, iP 1, iP 1]),
    (7, .cells true 0 [iP 1, iP 1, iP 1])],
   [.cells true 2 [iP 0]],
   .tuple ⟨[.slice (some ⟨8, 0, none⟩) 1 18446744073709551616, iP 0]⟩⟩
theorem pb54_ok : pb54.okS EE.G = true := by kernel_rfl
theorem pb54_run : evT EE paT 1000000000 (.call pb54.f pb54.args) pb54.heap (keptK pb54) = some (.bool true) := by kernel_rfl
theorem pb54_h : pb54.holds EE := ent_run envOk paT_holds _ _ pb54_ok pb54_run
-- decani/office.Falls, 10861 steps
noncomputable def pb75 : Ent :=
  ⟨9, [.agg ⟨[iP 3, iP 0, .slice (some ⟨6, 0, none⟩) 3 18446744073709551616, .slice (some ⟨7, 0, none⟩) 1 1, .bool false, .slice none 0 0, .bool false, .slice none 0 0]⟩, iP 0, iP 1], 8,
   gB ++ [(6, .cells true 4 [iP 1, iP 1, iP 1, iP 1, iP 1, iP 1, iP 1, iP 1, iP 1]),
    (7, .cells true 0 [iP 1, iP 1, iP 1])],
   [],
   .tuple ⟨[.agg ⟨[iP 2, iP 2]⟩, iP 0]⟩⟩
theorem pb75_ok : pb75.okS EE.G = true := by kernel_rfl
theorem pb75_run : evT EE paT 1000000000 (.call pb75.f pb75.args) pb75.heap (keptK pb75) = some (.bool true) := by kernel_rfl
theorem pb75_h : pb75.holds EE := ent_run envOk paT_holds _ _ pb75_ok pb75_run
-- decani/office.Falls, 14202 steps
noncomputable def pb96 : Ent :=
  ⟨9, [.agg ⟨[iP 3, iP 0, .slice (some ⟨6, 0, none⟩) 4 18446744073709551616, .slice (some ⟨7, 0, none⟩) 1 1, .bool false, .slice none 0 0, .bool false, .slice none 0 0]⟩, iP 0, iP 3], 8,
   gB ++ [(6, .cells true 4 [iP 0, iP 0, iP 1, iP 0, iP 0, iP 1, iP 0, iP 0, iP 1, iP 0, iP 0, iP 1]),
    (7, .cells true 0 [iP 1, iP 1, iP 1])],
   [],
   .tuple ⟨[.agg ⟨[iP 0, iP 0]⟩, iP 4]⟩⟩
theorem pb96_ok : pb96.okS EE.G = true := by kernel_rfl
theorem pb96_run : evT EE paT 1000000000 (.call pb96.f pb96.args) pb96.heap (keptK pb96) = some (.bool true) := by kernel_rfl
theorem pb96_h : pb96.holds EE := ent_run envOk paT_holds _ _ pb96_ok pb96_run
-- decani/office.Falls, 7013 steps
noncomputable def pb117 : Ent :=
  ⟨9, [.agg ⟨[iP 4, iP 0, .slice (some ⟨6, 0, none⟩) 1 18446744073709551616, .slice (some ⟨7, 0, none⟩) 1 1, .bool false, .slice none 0 0, .bool false, .slice none 0 0]⟩, iP 0, iP 0], 8,
   gB ++ [(6, .cells true 4 [iP 0, iP 0, iP 1]),
    (7, .cells true 0 [iP 1, iP 1, iP 1])],
   [],
   .tuple ⟨[.agg ⟨[iP 0, iP 0]⟩, iP 0]⟩⟩
theorem pb117_ok : pb117.okS EE.G = true := by kernel_rfl
theorem pb117_run : evT EE paT 1000000000 (.call pb117.f pb117.args) pb117.heap (keptK pb117) = some (.bool true) := by kernel_rfl
theorem pb117_h : pb117.holds EE := ent_run envOk paT_holds _ _ pb117_ok pb117_run
-- decani/office.Falls, 9602 steps
noncomputable def pb138 : Ent :=
  ⟨9, [.agg ⟨[iP 4, iP 0, .slice (some ⟨6, 0, none⟩) 2 18446744073709551616, .slice (some ⟨7, 0, none⟩) 1 1, .bool false, .slice none 0 0, .bool false, .slice none 0 0]⟩, iP 0, iP 1], 8,
   gB ++ [(6, .cells true 4 [iP 2, iP 2, iP 1, iP 2, iP 2, iP 1]),
    (7, .cells true 0 [iP 1, iP 1, iP 1])],
   [],
   .tuple ⟨[.agg ⟨[iP 3, iP 3]⟩, iP 0]⟩⟩
theorem pb138_ok : pb138.okS EE.G = true := by kernel_rfl
theorem pb138_run : evT EE paT 1000000000 (.call pb138.f pb138.args) pb138.heap (keptK pb138) = some (.bool true) := by kernel_rfl
theorem pb138_h : pb138.holds EE := ent_run envOk paT_holds _ _ pb138_ok pb138_run
-- decani/office.Kept, 12483 steps
noncomputable def pb159 : Ent :=
  ⟨11, [.agg ⟨[iP 4, iP 0, .slice (some ⟨6, 0, none⟩) 3 18446744073709551616, .slice (some ⟨7, 0, none⟩) 1 1, .bool false, .slice none 0 0, .bool false, .slice none 0 0]⟩, iP 0, iP 1], 8,
   gB ++ [(6, .cells true 4 [iP 1, iP 1, iP 1, iP 1, iP 1, iP 1, iP 1, iP 1, iP 1]),
    (7, .cells true 0 [iP 1, iP 1, iP 1])],
   [],
   .tuple ⟨[iP 2, iP 0]⟩⟩
theorem pb159_ok : pb159.okS EE.G = true := by kernel_rfl
theorem pb159_run : evT EE paT 1000000000 (.call pb159.f pb159.args) pb159.heap (keptK pb159) = some (.bool true) := by kernel_rfl
theorem pb159_h : pb159.holds EE := ent_run envOk paT_holds _ _ pb159_ok pb159_run
-- decani/office.Kept, 15981 steps
noncomputable def pb180 : Ent :=
  ⟨11, [.agg ⟨[iP 4, iP 0, .slice (some ⟨6, 0, none⟩) 4 18446744073709551616, .slice (some ⟨7, 0, none⟩) 1 1, .bool false, .slice none 0 0, .bool false, .slice none 0 0]⟩, iP 0, iP 0], 8,
   gB ++ [(6, .cells true 4 [iP 0, iP 0, iP 1, iP 0, iP 0, iP 1, iP 0, iP 0, iP 1, iP 0, iP 0, iP 1]),
    (7, .cells true 0 [iP 1, iP 1, iP 1])],
   [],
   .tuple ⟨[iP 2, iP 0]⟩⟩
theorem pb180_ok : pb180.okS EE.G = true := by kernel_rfl
theorem pb180_run : evT EE paT 1000000000 (.call pb180.f pb180.args) pb180.heap (keptK pb180) = some (.bool true) := by kernel_rfl
theorem pb180_h : pb180.holds EE := ent_run envOk paT_holds _ _ pb180_ok pb180_run
-- decani/office.Kept, 16052 steps
noncomputable def pb201 : Ent :=
  ⟨11, [.agg ⟨[iP 4, iP 0, .slice (some ⟨6, 0, none⟩) 4 18446744073709551616, .slice (some ⟨7, 0, none⟩) 1 1, .bool false, .slice none 0 0, .bool false, .slice none 0 0]⟩, iP 0, iP 3], 8,
   gB ++ [(6, .cells true 4 [iP 1, iP 1, iP 1, iP 1, iP 1, iP 1, iP 1, iP 1, iP 1, iP 1, iP 1, iP 1]),
    (7, .cells true 0 [iP 1, iP 1, iP 1])],
   [],
   .tuple ⟨[iP 0, iP 0]⟩⟩
theorem pb201_ok : pb201.okS EE.G = true := by kernel_rfl
theorem pb201_run : evT EE paT 1000000000 (.call pb201.f pb201.args) pb201.heap (keptK pb201) = some (.bool true) := by kernel_rfl
theorem pb201_h : pb201.holds EE := ent_run envOk paT_holds _ _ pb201_ok pb201_run
-- decani/office.Kept, 8171 steps
noncomputable def pb222 : Ent :=
  ⟨11, [.agg ⟨[iP 5, iP 0, .slice (some ⟨6, 0, none⟩) 1 18446744073709551616, .slice (some ⟨7, 0, none⟩) 1 1, .bool false, .slice none 0 0, .bool false, .slice none 0 0]⟩, iP 0, iP 0], 8,
   gB ++ [(6, .cells true 4 [iP 0, iP 0, iP 1]),
    (7, .cells true 0 [iP 1, iP 1, iP 1])],
   [],
   .tuple ⟨[iP 2, iP 0]⟩⟩
theorem pb222_ok : pb222.okS EE.G = true := by kernel_rfl
theorem pb222_run : evT EE paT 1000000000 (.call pb222.f pb222.args) pb222.heap (keptK pb222) = some (.bool true) := by kernel_rfl
theorem pb222_h : pb222.holds EE := ent_run envOk paT_holds _ _ pb222_ok pb222_run
-- decani/office.Kept, 10846 steps
noncomputable def pb243 : Ent :=
  ⟨11, [.agg ⟨[iP 5, iP 0, .slice (some ⟨6, 0, none⟩) 2 18446744073709551616, .slice (some ⟨7, 0, none⟩) 1 1, .bool false, .slice none 0 0, .bool false, .slice none 0 0]⟩, iP 0, iP 0], 8,
   gB ++ [(6, .cells true 4 [iP 1, iP 1, iP 1, iP 1, iP 1, iP 1]),
    (7, .cells true 0 [iP 1, iP 1, iP 1])],
   [],
   .tuple ⟨[iP 2, iP 0]⟩⟩
theorem pb243_ok : pb243.okS EE.G = true := by kernel_rfl
theorem pb243_run : evT EE paT 1000000000 (.call pb243.f pb243.args) pb243.heap (keptK pb243) = some (.bool true) := by kernel_rfl
theorem pb243_h : pb243.holds EE := ent_run envOk paT_holds _ _ pb243_ok pb243_run
-- decani/office.Kept, 10917 steps
noncomputable def pb264 : Ent :=
  ⟨11, [.agg ⟨[iP 5, iP 0, .slice (some ⟨6, 0, none⟩) 2 18446744073709551616, .slice (some ⟨7, 0, none⟩) 1 1, .bool false, .slice none 0 0, .bool false, .slice none 0 0]⟩, iP 0, iP 1], 8,
   gB ++ [(6, .cells true 4 [iP 4, iP 4, iP 1, iP 4, iP 4, iP 1]),
    (7, .cells true 0 [iP 1, iP 1, iP 1])],
   [],
   .tuple ⟨[iP 0, iP 0]⟩⟩
theorem pb264_ok : pb264.okS EE.G = true := by kernel_rfl
theorem pb264_run : evT EE paT 1000000000 (.call pb264.f pb264.args) pb264.heap (keptK pb264) = some (.bool true) := by kernel_rfl
theorem pb264_h : pb264.holds EE := ent_run envOk paT_holds _ _ pb264_ok pb264_run
-- decani/office.Kept, 14154 steps
noncomputable def pb285 : Ent :=
  ⟨11, [.agg ⟨[iP 5, iP 0, .slice (some ⟨6, 0, none⟩) 3 18446744073709551616, .slice (some ⟨7, 0, none⟩) 1 1, .bool false, .slice none 0 0, .bool false, .slice none 0 0]⟩, iP 0, iP 1], 8,
   gB ++ [(6, .cells true 4 [iP 2, iP 2, iP 1, iP 2, iP 2, iP 1, iP 2, iP 2, iP 1]),
    (7, .cells true 0 [iP 1, iP 1, iP 1])],
   [],
   .tuple ⟨[iP 2, iP 0]⟩⟩
theorem pb285_ok : pb285.okS EE.G = true := by kernel_rfl
theorem pb285_run : evT EE paT 1000000000 (.call pb285.f pb285.args) pb285.heap (keptK pb285) = some (.bool true) := by kernel_rfl
theorem pb285_h : pb285.holds EE := ent_run envOk paT_holds _ _ pb285_ok pb285_run
-- decani/office.Kept, 17789 steps
noncomputable def pb306 : Ent :=
  ⟨11, [.agg ⟨[iP 5, iP 0, .slice (some ⟨6, 0, none⟩) 4 18446744073709551616, .slice (some ⟨7, 0, none⟩) 1 1, .bool false, .slice none 0 0, .bool false, .slice none 0 0]⟩, iP 0, iP 0], 8,
   gB ++ [(6, .cells true 4 [iP 0, iP 0, iP 1, iP 0, iP 0, iP 1, iP 0, iP 0, iP 1, iP 0, iP 0, iP 1]),
    (7, .cells true 0 [iP 1, iP 1, iP 1])],
   [],
   .tuple ⟨[iP 2, iP 0]⟩⟩
theorem pb306_ok : pb306.okS EE.G = true := by kernel_rfl
theorem pb306_run : evT EE paT 1000000000 (.call pb306.f pb306.args) pb306.heap (keptK pb306) = some (.bool true) := by kernel_rfl
theorem pb306_h : pb306.holds EE := ent_run envOk paT_holds _ _ pb306_ok pb306_run
-- decani/office.Kept, 17993 steps
noncomputable def pb327 : Ent :=
  ⟨11, [.agg ⟨[iP 5, iP 0, .slice (some ⟨6, 0, none⟩) 4 18446744073709551616, .slice (some ⟨7, 0, none⟩) 1 1, .bool false, .slice none 0 0, .bool false, .slice none 0 0]⟩, iP 0, iP 3], 8,
   gB ++ [(6, .cells true 4 [iP 1, iP 1, iP 1, iP 1, iP 1, iP 1, iP 1, iP 1, iP 1, iP 1, iP 1, iP 1]),
    (7, .cells true 0 [iP 1, iP 1, iP 1])],
   [],
   .tuple ⟨[iP 2, iP 0]⟩⟩
theorem pb327_ok : pb327.okS EE.G = true := by kernel_rfl
theorem pb327_run : evT EE paT 1000000000 (.call pb327.f pb327.args) pb327.heap (keptK pb327) = some (.bool true) := by kernel_rfl
theorem pb327_h : pb327.holds EE := ent_run envOk paT_holds _ _ pb327_ok pb327_run
-- decani/office.Falls, 17250 steps
noncomputable def pb348 : Ent :=
  ⟨9, [.agg ⟨[iP 5, iP 0, .slice (some ⟨6, 0, none⟩) 4 18446744073709551616, .slice (some ⟨7, 0, none⟩) 1 1, .bool false, .slice none 0 0, .bool false, .slice none 0 0]⟩, iP 0, iP 3], 8,
   gB ++ [(6, .cells true 4 [iP 3, iP 3, iP 1, iP 3, iP 3, iP 1, iP 3, iP 3, iP 1, iP 3, iP 3, iP 1]),
    (7, .cells true 0 [iP 1, iP 1, iP 1])],
   [],
   .tuple ⟨[.agg ⟨[iP 0, iP 0]⟩, iP 4]⟩⟩
theorem pb348_ok : pb348.okS EE.G = true := by kernel_rfl
theorem pb348_run : evT EE paT 1000000000 (.call pb348.f pb348.args) pb348.heap (keptK pb348) = some (.bool true) := by kernel_rfl
theorem pb348_h : pb348.holds EE := ent_run envOk paT_holds _ _ pb348_ok pb348_run
-- decani/office.Kept, 9568 steps
noncomputable def pb369 : Ent :=
  ⟨11, [.agg ⟨[iP 6, iP 0, .slice (some ⟨6, 0, none⟩) 1 18446744073709551616, .slice (some ⟨7, 0, none⟩) 1 1, .bool false, .slice none 0 0, .bool false, .slice none 0 0]⟩, iP 0, iP 0], 8,
   gB ++ [(6, .cells true 4 [iP 3, iP 3, iP 1]),
    (7, .cells true 0 [iP 1, iP 1, iP 1])],
   [],
   .tuple ⟨[iP 2, iP 0]⟩⟩
theorem pb369_ok : pb369.okS EE.G = true := by kernel_rfl
theorem pb369_run : evT EE paT 1000000000 (.call pb369.f pb369.args) pb369.heap (keptK pb369) = some (.bool true) := by kernel_rfl
theorem pb369_h : pb369.holds EE := ent_run envOk paT_holds _ _ pb369_ok pb369_run
-- decani/office.Kept, 12329 steps
noncomputable def pb390 : Ent :=
  ⟨11, [.agg ⟨[iP 6, iP 0, .slice (some ⟨6, 0, none⟩) 2 18446744073709551616, .slice (some ⟨7, 0, none⟩) 1 1, .bool false, .slice none 0 0, .bool false, .slice none 0 0]⟩, iP 0, iP 0], 8,
   gB ++ [(6, .cells true 4 [iP 2, iP 2, iP 1, iP 2, iP 2, iP 1]),
    (7, .cells true 0 [iP 1, iP 1, iP 1])],
   [],
   .tuple ⟨[iP 2, iP 0]⟩⟩
theorem pb390_ok : pb390.okS EE.G = true := by kernel_rfl
theorem pb390_run : evT EE paT 1000000000 (.call pb390.f pb390.args) pb390.heap (keptK pb390) = some (.bool true) := by kernel_rfl
theorem pb390_h : pb390.holds EE := ent_run envOk paT_holds _ _ pb390_ok pb390_run
-- decani/office.Kept, 12400 steps
noncomputable def pb411 : Ent :=
  ⟨11, [.agg ⟨[iP 6, iP 0, .slice (some ⟨6, 0, none⟩) 2 18446744073709551616, .slice (some ⟨7, 0, none⟩) 1 1, .bool false, .slice none 0 0, .bool false, .slice none 0 0]⟩, iP 0, iP 1], 8,
   gB ++ [(6, .cells true 4 [iP 5, iP 5, iP 1, iP 5, iP 5, iP 1]),
    (7, .cells true 0 [iP 1, iP 1, iP 1])],
   [],
   .tuple ⟨[iP 0, iP 0]⟩⟩
theorem pb411_ok : pb411.okS EE.G = true := by kernel_rfl
theorem pb411_run : evT EE paT 1000000000 (.call pb411.f pb411.args) pb411.heap (keptK pb411) = some (.bool true) := by kernel_rfl
theorem pb411_h : pb411.holds EE := ent_run envOk paT_holds _ _ pb411_ok pb411_run
-- decani/office.Chief, 15685 steps
noncomputable def pb432 : Ent :=
  ⟨14, [.agg ⟨[iP 6, iP 0, .slice (some ⟨6, 0, none⟩) 3 18446744073709551616, .slice (some ⟨7, 0, none⟩) 1 1, .bool false, .slice none 0 0, .bool false, .slice none 0 0]⟩, iP 0, iP 2], 8,
   gB ++ [(6, .cells true 4 [iP 2, iP 2, iP 1, iP 2, iP 2, iP 1, iP 2, iP 2, iP 1]),
    (7, .cells true 0 [iP 1, iP 1, iP 1])],
   [.cells true 2 [iP 0]],
   .tuple ⟨[.slice (some ⟨8, 0, none⟩) 1 18446744073709551616, iP 0]⟩⟩
theorem pb432_ok : pb432.okS EE.G = true := by kernel_rfl
theorem pb432_run : evT EE paT 1000000000 (.call pb432.f pb432.args) pb432.heap (keptK pb432) = some (.bool true) := by kernel_rfl
theorem pb432_h : pb432.holds EE := ent_run envOk paT_holds _ _ pb432_ok pb432_run
-- decani/office.Chief, 15597 steps
noncomputable def pb453 : Ent :=
  ⟨14, [.agg ⟨[iP 6, iP 0, .slice (some ⟨6, 0, none⟩) 3 18446744073709551616, .slice (some ⟨7, 0, none⟩) 1 1, .bool false, .slice none 0 0, .bool false, .slice none 0 0]⟩, iP 0, iP 5], 8,
   gB ++ [(6, .cells true 4 [iP 4, iP 4, iP 1, iP 4, iP 4, iP 1, iP 4, iP 4, iP 1]),
    (7, .cells true 0 [iP 1, iP 1, iP 1])],
   [.cells true 2 [iP 1]],
   .tuple ⟨[.slice (some ⟨8, 0, none⟩) 1 18446744073709551616, iP 0]⟩⟩
theorem pb453_ok : pb453.okS EE.G = true := by kernel_rfl
theorem pb453_run : evT EE paT 1000000000 (.call pb453.f pb453.args) pb453.heap (keptK pb453) = some (.bool true) := by kernel_rfl
theorem pb453_h : pb453.holds EE := ent_run envOk paT_holds _ _ pb453_ok pb453_run
-- decani/office.Chief, 19661 steps
noncomputable def pb474 : Ent :=
  ⟨14, [.agg ⟨[iP 6, iP 0, .slice (some ⟨6, 0, none⟩) 4 18446744073709551616, .slice (some ⟨7, 0, none⟩) 1 1, .bool false, .slice none 0 0, .bool false, .slice none 0 0]⟩, iP 0, iP 3], 8,
   gB ++ [(6, .cells true 4 [iP 0, iP 0, iP 1, iP 0, iP 0, iP 1, iP 0, iP 0, iP 1, iP 0, iP 0, iP 1]),
    (7, .cells true 0 [iP 1, iP 1, iP 1])],
   [.cells true 2 [iP 3]],
   .tuple ⟨[.slice (some ⟨8, 0, none⟩) 1 18446744073709551616, iP 0]⟩⟩
theorem pb474_ok : pb474.okS EE.G = true := by kernel_rfl
theorem pb474_run : evT EE paT 1000000000 (.call pb474.f pb474.args) pb474.heap (keptK pb474) = some (.bool true) := by kernel_rfl
theorem pb474_h : pb474.holds EE := ent_run envOk paT_holds _ _ pb474_ok pb474_run
-- decani/office.Chief, 19661 steps
noncomputable def pb495 : Ent :=
  ⟨14, [.agg ⟨[iP 6, iP 0, .slice (some ⟨6, 0, none⟩) 4 18446744073709551616, .slice (some ⟨7, 0, none⟩) 1 1, .bool false, .slice none 0 0, .bool false, .slice none 0 0]⟩, iP 0, iP 4], 8,
   gB ++ [(6, .cells true 4 [iP 2, iP 2, iP 1, iP 2, iP 2, iP 1, iP 2, iP 2, iP 1, iP 2, iP 2, iP 1]),
    (7, .cells true 0 [iP 1, iP 1, iP 1])],
   [.cells true 2 [iP 2]],
   .tuple ⟨[.slice (some ⟨8, 0, none⟩) 1 18446744073709551616, iP 0]⟩⟩
theorem pb495_ok : pb495.okS EE.G = true := by kernel_rfl
theorem pb495_run : evT EE paT 1000000000 (.call pb495.f pb495.args) pb495.heap (keptK pb495) = some (.bool true) := by kernel_rfl
theorem pb495_h : pb495.holds EE := ent_run envOk paT_holds _ _ pb495_ok pb495_run
-- decani/office.Falls, 19109 steps
noncomputable def pb516 : Ent :=
  ⟨9, [.agg ⟨[iP 6, iP 0, .slice (some ⟨6, 0, none⟩) 4 18446744073709551616, .slice (some ⟨7, 0, none⟩) 1 1, .bool false, .slice none 0 0, .bool false, .slice none 0 0]⟩, iP 0, iP 2], 8,
   gB ++ [(6, .cells true 4 [iP 4, iP 4, iP 1, iP 4, iP 4, iP 1, iP 4, iP 4, iP 1, iP 4, iP 4, iP 1]),
    (7, .cells true 0 [iP 1, iP 1, iP 1])],
   [],
   .tuple ⟨[.agg ⟨[iP 0, iP 0]⟩, iP 4]⟩⟩
theorem pb516_ok : pb516.okS EE.G = true := by kernel_rfl
theorem pb516_run : evT EE paT 1000000000 (.call pb516.f pb516.args) pb516.heap (keptK pb516) = some (.bool true) := by kernel_rfl
theorem pb516_h : pb516.holds EE := ent_run envOk paT_holds _ _ pb516_ok pb516_run
-- decani/office.Falls, 6778 steps
noncomputable def pb537 : Ent :=
  ⟨9, [.agg ⟨[iP 1, iP 0, .slice (some ⟨6, 0, none⟩) 3 18446744073709551616, .slice (some ⟨7, 0, none⟩) 1 1, .bool false, .slice none 0 0, .bool false, .slice none 0 0]⟩, iP 0, iP 1], 8,
   gB ++ [(6, .cells true 4 [iP 0, iP 0, iP 1, iP 0, iP 0, iP 1, iP 0, iP 0, iP 1]),
    (7, .cells true 0 [iP 1, iP 1, iP 1])],
   [],
   .tuple ⟨[.agg ⟨[iP 0, iP 0]⟩, iP 4]⟩⟩
theorem pb537_ok : pb537.okS EE.G = true := by kernel_rfl
theorem pb537_run : evT EE paT 1000000000 (.call pb537.f pb537.args) pb537.heap (keptK pb537) = some (.bool true) := by kernel_rfl
theorem pb537_h : pb537.holds EE := ent_run envOk paT_holds _ _ pb537_ok pb537_run
-- decani/office.Falls, 5871 steps
noncomputable def pb553 : Ent :=
  ⟨9, [.agg ⟨[iP 3, iP 0, .slice (some ⟨6, 0, none⟩) 1 18446744073709551616, .slice (some ⟨7, 0, none⟩) 1 1, .bool false, .slice none 0 0, .bool false, .slice none 0 0]⟩, iP 0, iP 0], 8,
   gB ++ [(6, .cells true 4 [iP 2, iP 2, iP 1]),
    (7, .cells true 0 [iP 1, iP 1, iP 1])],
   [],
   .tuple ⟨[.agg ⟨[iP 2, iP 2]⟩, iP 0]⟩⟩
theorem pb553_ok : pb553.okS EE.G = true := by kernel_rfl
theorem pb553_run : evT EE paT 1000000000 (.call pb553.f pb553.args) pb553.heap (keptK pb553) = some (.bool true) := by kernel_rfl
theorem pb553_h : pb553.holds EE := ent_run envOk paT_holds _ _ pb553_ok pb553_run
-- decani/office.Kept, 3195 steps
noncomputable def pb575 : Ent :=
  ⟨11, [.agg ⟨[iP 1, iP 0, .slice (some ⟨6, 0, none⟩) 1 18446744073709551616, .slice (some ⟨7, 0, none⟩) 1 1, .bool false, .slice none 0 0, .bool false, .slice none 0 0]⟩, iP 0, iP 0], 8,
   gB ++ [(6, .cells true 4 [iP 0, iP 0, iP 1]),
    (7, .cells true 0 [iP 1, iP 1, iP 1])],
   [],
   .tuple ⟨[iP 2, iP 0]⟩⟩
theorem pb575_ok : pb575.okS EE.G = true := by kernel_rfl
theorem pb575_run : evT EE paT 1000000000 (.call pb575.f pb575.args) pb575.heap (keptK pb575) = some (.bool true) := by kernel_rfl
theorem pb575_h : pb575.holds EE := ent_run envOk paT_holds _ _ pb575_ok pb575_run
end Go.Proofs.YtmjpnohpmfmdlaaGreatDoor
