/- Known calls, part 2: what single calls hand back, at small heaps, by the kernel's own run of the evaluator. No conditions. -/
import Derived.Test.YtmjpnohpmfmdlaaGreatDoorPAT
set_option linter.all false
namespace Go.Proofs.YtmjpnohpmfmdlaaGreatDoor
open Go.Ai
set_option maxRecDepth 1000000
-- decani/office.Chief, 14065 steps
noncomputable def pb2 : Ent :=
  ⟨14, [.agg ⟨[iP 5, iP 0, .slice (some ⟨6, 0, none⟩) 3 18446744073709551616, .slice (some ⟨7, 0, none⟩) 1 1, .bool false, .slice none 0 0, .bool false, .slice none 0 0]⟩, iP 0, iP 3], 8,
   gB ++ [(6, .cells true 4 [iP 1, iP 1, iP 1, iP 1, iP 1, iP 1, iP 1, iP 1, iP 1]),
    (7, .cells true 0 [iP 1, iP 1, iP 1])],
   [.cells true 2 [iP 2]],
   .tuple ⟨[.slice (some ⟨8, 0, none⟩) 1 18446744073709551616, iP 0]⟩⟩
theorem pb2_ok : pb2.okS EE.G = true := by kernel_rfl
theorem pb2_run : evT EE paT 1000000000 (.call pb2.f pb2.args) pb2.heap (keptK pb2) = some (.bool true) := by kernel_rfl
theorem pb2_h : pb2.holds EE := ent_run envOk paT_holds _ _ pb2_ok pb2_run
-- decani/office.Falls, 8449 steps
noncomputable def pb23 : Ent :=
  ⟨9, [.agg ⟨[iP 2, iP 0, .slice (some ⟨6, 0, none⟩) 3 18446744073709551616, .slice (some ⟨7, 0, none⟩) 1 1, .bool false, .slice none 0 0, .bool false, .slice none 0 0]⟩, iP 0, iP 1], 8,
   gB ++ [(6, .cells true 4 [iP 1, iP 1, iP 1, iP 1, iP 1, iP 1, iP 1, iP 1, iP 1]),
    (7, .cells true 0 [iP 1, iP 1, iP 1])],
   [],
   .tuple ⟨[.agg ⟨[iP 0, iP 0]⟩, iP 4]⟩⟩
theorem pb23_ok : pb23.okS EE.G = true := by kernel_rfl
theorem pb23_run : evT EE paT 1000000000 (.call pb23.f pb23.args) pb23.heap (keptK pb23) = some (.bool true) := by kernel_rfl
theorem pb23_h : pb23.holds EE := ent_run envOk paT_holds _ _ pb23_ok pb23_run
-- decani/office.Falls, 10421 steps
noncomputable def pb44 : Ent :=
  ⟨9, [.agg ⟨[iP 2, iP 0, .slice (some ⟨6, 0, none⟩) 4 18446744073709551616, .slice (some ⟨7, 0, none⟩) 1 1, .bool false, .slice none 0 0, .bool false, .slice none 0 0]⟩, iP 0, iP 3], 8,
   gB ++ [(6, .cells true 4 [iP 1, iP 1, iP 1, iP 1, iP 1, iP 1, iP 1, iP 1, iP 1, iP 1, iP 1, iP 1]),
    (7, .cells true 0 [iP 1, iP 1, iP 1])],
   [],
   .tuple ⟨[.agg ⟨[iP 0, iP 0]⟩, iP 4]⟩⟩
theorem pb44_ok : pb44.okS EE.G = true := by kernel_rfl
theorem pb44_run : evT EE paT 1000000000 (.call pb44.f pb44.args) pb44.heap (keptK pb44) = some (.bool true) := by kernel_rfl
theorem pb44_h : pb44.holds EE := ent_run envOk paT_holds _ _ pb44_ok pb44_run
-- decani/office.Chief, 10825 steps
noncomputable def pb65 : Ent :=
  ⟨14, [.agg ⟨[iP 3, iP 0, .slice (some ⟨6, 0, none⟩) 3 18446744073709551616, .slice (some ⟨7, 0, none⟩) 1 1, .bool false, .slice none 0 0, .bool false, .slice none 0 0]⟩, iP 0, iP 0], 8,
   gB ++ [(6, .cells true 4 [iP 0, iP 0, iP 1, iP 0, iP 0, iP 1, iP 0, iP 0, iP 1]),
    (7, .cells true 0 [iP 1, iP 1, iP 1])],
   [.cells true 2 [iP 0]],
   .tuple ⟨[.slice (some ⟨8, 0, none⟩) 1 18446744073709551616, iP 0]⟩⟩
theorem pb65_ok : pb65.okS EE.G = true := by kernel_rfl
theorem pb65_run : evT EE paT 1000000000 (.call pb65.f pb65.args) pb65.heap (keptK pb65) = some (.bool true) := by kernel_rfl
theorem pb65_h : pb65.holds EE := ent_run envOk paT_holds _ _ pb65_ok pb65_run
-- decani/office.Kept, 10111 steps
noncomputable def pb86 : Ent :=
  ⟨11, [.agg ⟨[iP 3, iP 0, .slice (some ⟨6, 0, none⟩) 3 18446744073709551616, .slice (some ⟨7, 0, none⟩) 1 1, .bool false, .slice none 0 0, .bool false, .slice none 0 0]⟩, iP 0, iP 2], 8,
   gB ++ [(6, .cells true 4 [iP 2, iP 2, iP 1, iP 2, iP 2, iP 1, iP 2, iP 2, iP 1]),
    (7, .cells true 0 [iP 1, iP 1, iP 1])],
   [],
   .tuple ⟨[iP 0, iP 0]⟩⟩
theorem pb86_ok : pb86.okS EE.G = true := by kernel_rfl
theorem pb86_run : evT EE paT 1000000000 (.call pb86.f pb86.args) pb86.heap (keptK pb86) = some (.bool true) := by kernel_rfl
theorem pb86_h : pb86.holds EE := ent_run envOk paT_holds _ _ pb86_ok pb86_run
-- decani/office.Kept, 13523 steps
noncomputable def pb107 : Ent :=
  ⟨11, [.agg ⟨[iP 3, iP 0, .slice (some ⟨6, 0, none⟩) 4 18446744073709551616, .slice (some ⟨7, 0, none⟩) 1 1, .bool false, .slice none 0 0, .bool false, .slice none 0 0]⟩, iP 0, iP 3], 8,
   gB ++ [(6, .cells true 4 [iP 1, iP 1, iP 1, iP 1, iP 1, iP 1, iP 1, iP 1, iP 1, iP 1, iP 1, iP 1]),
    (7, .cells true 0 [iP 1, iP 1, iP 1])],
   [],
   .tuple ⟨[iP 0, iP 0]⟩⟩
theorem pb107_ok : pb107.okS EE.G = true := by kernel_rfl
theorem pb107_run : evT EE paT 1000000000 (.call pb107.f pb107.args) pb107.heap (keptK pb107) = some (.bool true) := by kernel_rfl
theorem pb107_h : pb107.holds EE := ent_run envOk paT_holds _ _ pb107_ok pb107_run
-- decani/office.Chief, 9427 steps
noncomputable def pb128 : Ent :=
  ⟨14, [.agg ⟨[iP 4, iP 0, .slice (some ⟨6, 0, none⟩) 2 18446744073709551616, .slice (some ⟨7, 0, none⟩) 1 1, .bool false, .slice none 0 0, .bool false, .slice none 0 0]⟩, iP 0, iP 1], 8,
   gB ++ [(6, .cells true 4 [iP 0, iP 0, iP 1, iP 0, iP 0, iP 1]),
    (7, .cells true 0 [iP 1, iP 1, iP 1])],
   [.cells true 2 [iP 1]],
   .tuple ⟨[.slice (some ⟨8, 0, none⟩) 1 18446744073709551616, iP 0]⟩⟩
theorem pb128_ok : pb128.okS EE.G = true := by kernel_rfl
theorem pb128_run : evT EE paT 1000000000 (.call pb128.f pb128.args) pb128.heap (keptK pb128) = some (.bool true) := by kernel_rfl
theorem pb128_h : pb128.holds EE := ent_run envOk paT_holds _ _ pb128_ok pb128_run
-- decani/office.Falls, 12518 steps
noncomputable def pb149 : Ent :=
  ⟨9, [.agg ⟨[iP 4, iP 0, .slice (some ⟨6, 0, none⟩) 3 18446744073709551616, .slice (some ⟨7, 0, none⟩) 1 1, .bool false, .slice none 0 0, .bool false, .slice none 0 0]⟩, iP 0, iP 1], 8,
   gB ++ [(6, .cells true 4 [iP 0, iP 0, iP 1, iP 0, iP 0, iP 1, iP 0, iP 0, iP 1]),
    (7, .cells true 0 [iP 1, iP 1, iP 1])],
   [],
   .tuple ⟨[.agg ⟨[iP 1, iP 1]⟩, iP 0]⟩⟩
theorem pb149_ok : pb149.okS EE.G = true := by kernel_rfl
theorem pb149_run : evT EE paT 1000000000 (.call pb149.f pb149.args) pb149.heap (keptK pb149) = some (.bool true) := by kernel_rfl
theorem pb149_h : pb149.holds EE := ent_run envOk paT_holds _ _ pb149_ok pb149_run
-- decani/office.Falls, 12461 steps
noncomputable def pb170 : Ent :=
  ⟨9, [.agg ⟨[iP 4, iP 0, .slice (some ⟨6, 0, none⟩) 3 18446744073709551616, .slice (some ⟨7, 0, none⟩) 1 1, .bool false, .slice none 0 0, .bool false, .slice none 0 0]⟩, iP 0, iP 2], 8,
   gB ++ [(6, .cells true 4 [iP 2, iP 2, iP 1, iP 2, iP 2, iP 1, iP 2, iP 2, iP 1]),
    (7, .cells true 0 [iP 1, iP 1, iP 1])],
   [],
   .tuple ⟨[.agg ⟨[iP 0, iP 0]⟩, iP 4]⟩⟩
theorem pb170_ok : pb170.okS EE.G = true := by kernel_rfl
theorem pb170_run : evT EE paT 1000000000 (.call pb170.f pb170.args) pb170.heap (keptK pb170) = some (.bool true) := by kernel_rfl
theorem pb170_h : pb170.holds EE := ent_run envOk paT_holds _ _ pb170_ok pb170_run
-- decani/office.Falls, 16030 steps
noncomputable def pb191 : Ent :=
  ⟨9, [.agg ⟨[iP 4, iP 0, .slice (some ⟨6, 0, none⟩) 4 18446744073709551616, .slice (some ⟨7, 0, none⟩) 1 1, .bool false, .slice none 0 0, .bool false, .slice none 0 0]⟩, iP 0, iP 0], 8,
   gB ++ [(6, .cells true 4 [iP 1, iP 1, iP 1, iP 1, iP 1, iP 1, iP 1, iP 1, iP 1, iP 1, iP 1, iP 1]),
    (7, .cells true 0 [iP 1, iP 1, iP 1])],
   [],
   .tuple ⟨[.agg ⟨[iP 1, iP 1]⟩, iP 0]⟩⟩
theorem pb191_ok : pb191.okS EE.G = true := by kernel_rfl
theorem pb191_run : evT EE paT 1000000000 (.call pb191.f pb191.args) pb191.heap (keptK pb191) = some (.bool true) := by kernel_rfl
theorem pb191_h : pb191.holds EE := ent_run envOk paT_holds _ _ pb191_ok pb191_run
-- decani/office.Falls, 14210 steps
noncomputable def pb212 : Ent :=
  ⟨9, [.agg ⟨[iP 4, iP 0, .slice (some ⟨6, 0, none⟩) 4 18446744073709551616, .slice (some ⟨7, 0, none⟩) 1 1, .bool false, .slice none 0 0, .bool false, .slice none 0 0]⟩, iP 0, iP 0], 8,
   gB ++ [(6, .cells true 4 [iP 3, iP 3, iP 1, iP 3, iP 3, iP 1, iP 3, iP 3, iP 1, iP 3, iP 3, iP 1]),
    (7, .cells true 0 [iP 1, iP 1, iP 1])],
   [],
   .tuple ⟨[.agg ⟨[iP 3, iP 3]⟩, iP 0]⟩⟩
theorem pb212_ok : pb212.okS EE.G = true := by kernel_rfl
theorem pb212_run : evT EE paT 1000000000 (.call pb212.f pb212.args) pb212.heap (keptK pb212) = some (.bool true) := by kernel_rfl
theorem pb212_h : pb212.holds EE := ent_run envOk paT_holds _ _ pb212_ok pb212_run
-- decani/office.Falls, 8461 steps
noncomputable def pb233 : Ent :=
  ⟨9, [.agg ⟨[iP 5, iP 0, .slice (some ⟨6, 0, none⟩) 1 18446744073709551616, .slice (some ⟨7, 0, none⟩) 1 1, .bool false, .slice none 0 0, .bool false, .slice none 0 0]⟩, iP 0, iP 0], 8,
   gB ++ [(6, .cells true 4 [iP 4, iP 4, iP 1]),
    (7, .cells true 0 [iP 1, iP 1, iP 1])],
   [],
   .tuple ⟨[.agg ⟨[iP 4, iP 4]⟩, iP 0]⟩⟩
theorem pb233_ok : pb233.okS EE.G = true := by kernel_rfl
theorem pb233_run : evT EE paT 1000000000 (.call pb233.f pb233.args) pb233.heap (keptK pb233) = some (.bool true) := by kernel_rfl
theorem pb233_h : pb233.holds EE := ent_run envOk paT_holds _ _ pb233_ok pb233_run
-- decani/office.Falls, 11034 steps
noncomputable def pb254 : Ent :=
  ⟨9, [.agg ⟨[iP 5, iP 0, .slice (some ⟨6, 0, none⟩) 2 18446744073709551616, .slice (some ⟨7, 0, none⟩) 1 1, .bool false, .slice none 0 0, .bool false, .slice none 0 0]⟩, iP 0, iP 0], 8,
   gB ++ [(6, .cells true 4 [iP 3, iP 3, iP 1, iP 3, iP 3, iP 1]),
    (7, .cells true 0 [iP 1, iP 1, iP 1])],
   [],
   .tuple ⟨[.agg ⟨[iP 3, iP 3]⟩, iP 0]⟩⟩
theorem pb254_ok : pb254.okS EE.G = true := by kernel_rfl
theorem pb254_run : evT EE paT 1000000000 (.call pb254.f pb254.args) pb254.heap (keptK pb254) = some (.bool true) := by kernel_rfl
theorem pb254_h : pb254.holds EE := ent_run envOk paT_holds _ _ pb254_ok pb254_run
-- decani/office.Kept, 14052 steps
noncomputable def pb275 : Ent :=
  ⟨11, [.agg ⟨[iP 5, iP 0, .slice (some ⟨6, 0, none⟩) 3 18446744073709551616, .slice (some ⟨7, 0, none⟩) 1 1, .bool false, .slice none 0 0, .bool false, .slice none 0 0]⟩, iP 0, iP 0], 8,
   gB ++ [(6, .cells true 4 [iP 1, iP 1, iP 1, iP 1, iP 1, iP 1, iP 1, iP 1, iP 1]),
    (7, .cells true 0 [iP 1, iP 1, iP 1])],
   [],
   .tuple ⟨[iP 2, iP 0]⟩⟩
theorem pb275_ok : pb275.okS EE.G = true := by kernel_rfl
theorem pb275_run : evT EE paT 1000000000 (.call pb275.f pb275.args) pb275.heap (keptK pb275) = some (.bool true) := by kernel_rfl
theorem pb275_h : pb275.holds EE := ent_run envOk paT_holds _ _ pb275_ok pb275_run
-- decani/office.Falls, 14132 steps
noncomputable def pb296 : Ent :=
  ⟨9, [.agg ⟨[iP 5, iP 0, .slice (some ⟨6, 0, none⟩) 3 18446744073709551616, .slice (some ⟨7, 0, none⟩) 1 1, .bool false, .slice none 0 0, .bool false, .slice none 0 0]⟩, iP 0, iP 2], 8,
   gB ++ [(6, .cells true 4 [iP 3, iP 3, iP 1, iP 3, iP 3, iP 1, iP 3, iP 3, iP 1]),
    (7, .cells true 0 [iP 1, iP 1, iP 1])],
   [],
   .tuple ⟨[.agg ⟨[iP 0, iP 0]⟩, iP 4]⟩⟩
theorem pb296_ok : pb296.okS EE.G = true := by kernel_rfl
theorem pb296_run : evT EE paT 1000000000 (.call pb296.f pb296.args) pb296.heap (keptK pb296) = some (.bool true) := by kernel_rfl
theorem pb296_h : pb296.holds EE := ent_run envOk paT_holds _ _ pb296_ok pb296_run
-- decani/office.Falls, 17926 steps
noncomputable def pb317 : Ent :=
  ⟨9, [.agg ⟨[iP 5, iP 0, .slice (some ⟨6, 0, none⟩) 4 18446744073709551616, .slice (some ⟨7, 0, none⟩) 1 1, .bool false, .slice none 0 0, .bool false, .slice none 0 0]⟩, iP 0, iP 0], 8,
   gB ++ [(6, .cells true 4 [iP 1, iP 1, iP 1, iP 1, iP 1, iP 1, iP 1, iP 1, iP 1, iP 1, iP 1, iP 1]),
    (7, .cells true 0 [iP 1, iP 1, iP 1])],
   [],
   .tuple ⟨[.agg ⟨[iP 1, iP 1]⟩, iP 0]⟩⟩
theorem pb317_ok : pb317.okS EE.G = true := by kernel_rfl
theorem pb317_run : evT EE paT 1000000000 (.call pb317.f pb317.args) pb317.heap (keptK pb317) = some (.bool true) := by kernel_rfl
theorem pb317_h : pb317.holds EE := ent_run envOk paT_holds _ _ pb317_ok pb317_run
-- decani/office.Falls, 17920 steps
noncomputable def pb338 : Ent :=
  ⟨9, [.agg ⟨[iP 5, iP 0, .slice (some ⟨6, 0, none⟩) 4 18446744073709551616, .slice (some ⟨7, 0, none⟩) 1 1, .bool false, .slice none 0 0, .bool false, .slice none 0 0]⟩, iP 0, iP 3], 8,
   gB ++ [(6, .cells true 4 [iP 2, iP 2, iP 1, iP 2, iP 2, iP 1, iP 2, iP 2, iP 1, iP 2, iP 2, iP 1]),
    (7, .cells true 0 [iP 1, iP 1, iP 1])],
   [],
   .tuple ⟨[.agg ⟨[iP 0, iP 0]⟩, iP 4]⟩⟩
theorem pb338_ok : pb338.okS EE.G = true := by kernel_rfl
theorem pb338_run : evT EE paT 1000000000 (.call pb338.f pb338.args) pb338.heap (keptK pb338) = some (.bool true) := by kernel_rfl
theorem pb338_h : pb338.holds EE := ent_run envOk paT_holds _ _ pb338_ok pb338_run
-- decani/office.Falls, 9501 steps
noncomputable def pb359 : Ent :=
  ⟨9, [.agg ⟨[iP 6, iP 0, .slice (some ⟨6, 0, none⟩) 1 18446744073709551616, .slice (some ⟨7, 0, none⟩) 1 1, .bool false, .slice none 0 0, .bool false, .slice none 0 0]⟩, iP 0, iP 0], 8,
   gB ++ [(6, .cells true 4 [iP 0, iP 0, iP 1]),
    (7, .cells true 0 [iP 1, iP 1, iP 1])],
   [],
   .tuple ⟨[.agg ⟨[iP 0, iP 0]⟩, iP 0]⟩⟩
theorem pb359_ok : pb359.okS EE.G = true := by kernel_rfl
theorem pb359_run : evT EE paT 1000000000 (.call pb359.f pb359.args) pb359.heap (keptK pb359) = some (.bool true) := by kernel_rfl
theorem pb359_h : pb359.holds EE := ent_run envOk paT_holds _ _ pb359_ok pb359_run
-- decani/office.Falls, 12364 steps
noncomputable def pb380 : Ent :=
  ⟨9, [.agg ⟨[iP 6, iP 0, .slice (some ⟨6, 0, none⟩) 2 18446744073709551616, .slice (some ⟨7, 0, none⟩) 1 1, .bool false, .slice none 0 0, .bool false, .slice none 0 0]⟩, iP 0, iP 1], 8,
   gB ++ [(6, .cells true 4 [iP 0, iP 0, iP 1, iP 0, iP 0, iP 1]),
    (7, .cells true 0 [iP 1, iP 1, iP 1])],
   [],
   .tuple ⟨[.agg ⟨[iP 1, iP 1]⟩, iP 0]⟩⟩
theorem pb380_ok : pb380.okS EE.G = true := by kernel_rfl
theorem pb380_run : evT EE paT 1000000000 (.call pb380.f pb380.args) pb380.heap (keptK pb380) = some (.bool true) := by kernel_rfl
theorem pb380_h : pb380.holds EE := ent_run envOk paT_holds _ _ pb380_ok pb380_run
-- decani/office.Falls, 12517 steps
noncomputable def pb401 : Ent :=
  ⟨9, [.agg ⟨[iP 6, iP 0, .slice (some ⟨6, 0, none⟩) 2 18446744073709551616, .slice (some ⟨7, 0, none⟩) 1 1, .bool false, .slice none 0 0, .bool false, .slice none 0 0]⟩, iP 0, iP 0], 8,
   gB ++ [(6, .cells true 4 [iP 4, iP 4, iP 1, iP 4, iP 4, iP 1]),
    (7, .cells true 0 [iP 1, iP 1, iP 1])],
   [],
   .tuple ⟨[.agg ⟨[iP 4, iP 4]⟩, iP 0]⟩⟩
theorem pb401_ok : pb401.okS EE.G = true := by kernel_rfl
theorem pb401_run : evT EE paT 1000000000 (.call pb401.f pb401.args) pb401.heap (keptK pb401) = some (.bool true) := by kernel_rfl
theorem pb401_h : pb401.holds EE := ent_run envOk paT_holds _ _ pb401_ok pb401_run
-- decani/office.Kept, 15672 steps
noncomputable def pb422 : Ent :=
  ⟨11, [.agg ⟨[iP 6, iP 0, .slice (some ⟨6, 0, none⟩) 3 18446744073709551616, .slice (some ⟨7, 0, none⟩) 1 1, .bool false, .slice none 0 0, .bool false, .slice none 0 0]⟩, iP 0, iP 0], 8,
   gB ++ [(6, .cells true 4 [iP 1, iP 1, iP 1, iP 1, iP 1, iP 1, iP 1, iP 1, iP 1]),
    (7, .cells true 0 [iP 1, iP 1, iP 1])],
   [],
   .tuple ⟨[iP 2, iP 0]⟩⟩
theorem pb422_ok : pb422.okS EE.G = true := by kernel_rfl
theorem pb422_run : evT EE paT 1000000000 (.call pb422.f pb422.args) pb422.heap (keptK pb422) = some (.bool true) := by kernel_rfl
theorem pb422_h : pb422.holds EE := ent_run envOk paT_holds _ _ pb422_ok pb422_run
-- decani/office.Kept, 15825 steps
noncomputable def pb443 : Ent :=
  ⟨11, [.agg ⟨[iP 6, iP 0, .slice (some ⟨6, 0, none⟩) 3 18446744073709551616, .slice (some ⟨7, 0, none⟩) 1 1, .bool false, .slice none 0 0, .bool false, .slice none 0 0]⟩, iP 0, iP 1], 8,
   gB ++ [(6, .cells true 4 [iP 3, iP 3, iP 1, iP 3, iP 3, iP 1, iP 3, iP 3, iP 1]),
    (7, .cells true 0 [iP 1, iP 1, iP 1])],
   [],
   .tuple ⟨[iP 2, iP 0]⟩⟩
theorem pb443_ok : pb443.okS EE.G = true := by kernel_rfl
theorem pb443_run : evT EE paT 1000000000 (.call pb443.f pb443.args) pb443.heap (keptK pb443) = some (.bool true) := by kernel_rfl
theorem pb443_h : pb443.holds EE := ent_run envOk paT_holds _ _ pb443_ok pb443_run
-- decani/office.Kept, 19597 steps
noncomputable def pb464 : Ent :=
  ⟨11, [.agg ⟨[iP 6, iP 0, .slice (some ⟨6, 0, none⟩) 4 18446744073709551616, .slice (some ⟨7, 0, none⟩) 1 1, .bool false, .slice none 0 0, .bool false, .slice none 0 0]⟩, iP 0, iP 0], 8,
   gB ++ [(6, .cells true 4 [iP 0, iP 0, iP 1, iP 0, iP 0, iP 1, iP 0, iP 0, iP 1, iP 0, iP 0, iP 1]),
    (7, .cells true 0 [iP 1, iP 1, iP 1])],
   [],
   .tuple ⟨[iP 2, iP 0]⟩⟩
theorem pb464_ok : pb464.okS EE.G = true := by kernel_rfl
theorem pb464_run : evT EE paT 1000000000 (.call pb464.f pb464.args) pb464.heap (keptK pb464) = some (.bool true) := by kernel_rfl
theorem pb464_h : pb464.holds EE := ent_run envOk paT_holds _ _ pb464_ok pb464_run
-- decani/office.Kept, 19801 steps
noncomputable def pb485 : Ent :=
  ⟨11, [.agg ⟨[iP 6, iP 0, .slice (some ⟨6, 0, none⟩) 4 18446744073709551616, .slice (some ⟨7, 0, none⟩) 1 1, .bool false, .slice none 0 0, .bool false, .slice none 0 0]⟩, iP 0, iP 3], 8,
   gB ++ [(6, .cells true 4 [iP 1, iP 1, iP 1, iP 1, iP 1, iP 1, iP 1, iP 1, iP 1, iP 1, iP 1, iP 1]),
    (7, .cells true 0 [iP 1, iP 1, iP 1])],
   [],
   .tuple ⟨[iP 2, iP 0]⟩⟩
theorem pb485_ok : pb485.okS EE.G = true := by kernel_rfl
theorem pb485_run : evT EE paT 1000000000 (.call pb485.f pb485.args) pb485.heap (keptK pb485) = some (.bool true) := by kernel_rfl
theorem pb485_h : pb485.holds EE := ent_run envOk paT_holds _ _ pb485_ok pb485_run
-- decani/office.Kept, 19764 steps
noncomputable def pb506 : Ent :=
  ⟨11, [.agg ⟨[iP 6, iP 0, .slice (some ⟨6, 0, none⟩) 4 18446744073709551616, .slice (some ⟨7, 0, none⟩) 1 1, .bool false, .slice none 0 0, .bool false, .slice none 0 0]⟩, iP 0, iP 2], 8,
   gB ++ [(6, .cells true 4 [iP 3, iP 3, iP 1, iP 3, iP 3, iP 1, iP 3, iP 3, iP 1, iP 3, iP 3, iP 1]),
    (7, .cells true 0 [iP 1, iP 1, iP 1])],
   [],
   .tuple ⟨[iP 2, iP 0]⟩⟩
theorem pb506_ok : pb506.okS EE.G = true := by kernel_rfl
theorem pb506_run : evT EE paT 1000000000 (.call pb506.f pb506.args) pb506.heap (keptK pb506) = some (.bool true) := by kernel_rfl
theorem pb506_h : pb506.holds EE := ent_run envOk paT_holds _ _ pb506_ok pb506_run
-- decani/office.Falls, 17857 steps
noncomputable def pb527 : Ent :=
  ⟨9, [.agg ⟨[iP 6, iP 0, .slice (some ⟨6, 0, none⟩) 4 18446744073709551616, .slice (some ⟨7, 0, none⟩) 1 1, .bool false, .slice none 0 0, .bool false, .slice none 0 0]⟩, iP 0, iP 3], 8,
   gB ++ [(6, .cells true 4 [iP 5, iP 5, iP 1, iP 5, iP 5, iP 1, iP 5, iP 5, iP 1, iP 5, iP 5, iP 1]),
    (7, .cells true 0 [iP 1, iP 1, iP 1])],
   [],
   .tuple ⟨[.agg ⟨[iP 0, iP 0]⟩, iP 4]⟩⟩
theorem pb527_ok : pb527.okS EE.G = true := by kernel_rfl
theorem pb527_run : evT EE paT 1000000000 (.call pb527.f pb527.args) pb527.heap (keptK pb527) = some (.bool true) := by kernel_rfl
theorem pb527_h : pb527.holds EE := ent_run envOk paT_holds _ _ pb527_ok pb527_run
-- decani/office.Kept, 4985 steps
noncomputable def pb565 : Ent :=
  ⟨11, [.agg ⟨[iP 1, iP 0, .slice (some ⟨6, 0, none⟩) 2 18446744073709551616, .slice (some ⟨7, 0, none⟩) 1 1, .bool false, .slice none 0 0, .bool false, .slice none 0 0]⟩, iP 0, iP 1], 8,
   gB ++ [(6, .cells true 4 [iP 0, iP 0, iP 1, iP 0, iP 0, iP 1]),
    (7, .cells true 0 [iP 1, iP 1, iP 1])],
   [],
   .tuple ⟨[iP 0, iP 0]⟩⟩
theorem pb565_ok : pb565.okS EE.G = true := by kernel_rfl
theorem pb565_run : evT EE paT 1000000000 (.call pb565.f pb565.args) pb565.heap (keptK pb565) = some (.bool true) := by kernel_rfl
theorem pb565_h : pb565.holds EE := ent_run envOk paT_holds _ _ pb565_ok pb565_run
-- decani/office.Falls, 4525 steps
noncomputable def pb568 : Ent :=
  ⟨9, [.agg ⟨[iP 2, iP 0, .slice (some ⟨6, 0, none⟩) 1 18446744073709551616, .slice (some ⟨7, 0, none⟩) 1 1, .bool false, .slice none 0 0, .bool false, .slice none 0 0]⟩, iP 0, iP 0], 8,
   gB ++ [(6, .cells true 4 [iP 0, iP 0, iP 1]),
    (7, .cells true 0 [iP 1, iP 1, iP 1])],
   [],
   .tuple ⟨[.agg ⟨[iP 0, iP 0]⟩, iP 0]⟩⟩
theorem pb568_ok : pb568.okS EE.G = true := by kernel_rfl
theorem pb568_run : evT EE paT 1000000000 (.call pb568.f pb568.args) pb568.heap (keptK pb568) = some (.bool true) := by kernel_rfl
theorem pb568_h : pb568.holds EE := ent_run envOk paT_holds _ _ pb568_ok pb568_run
end Go.Proofs.YtmjpnohpmfmdlaaGreatDoor
