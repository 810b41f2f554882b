/- Known calls, part 6: what single calls hand back, at small heaps, by the kernel's own run of the evaluator. No conditions. -/
import Derived.Test.YtmjpnohpmfmdlaaGreatDoorPAT
set_option linter.all false
namespace Go.Proofs.YtmjpnohpmfmdlaaGreatDoor
open Go.Ai
set_option maxRecDepth 1000000
-- decani/office.Falls, 8562 steps
noncomputable def pb6 : Ent :=
  ⟨9, [.agg ⟨[iP 1, iP 0, .slice (some ⟨6, 0, none⟩) 4 18446744073709551616, .slice (some ⟨7, 0, none⟩) 1 1, .bool false, .slice none 0 0, .bool false, .slice none 0 0]⟩, iP 0, iP 1], 8,
   gB ++ [(6, .cells true 4 [iP 0, iP 0, iP 1, iP 0, iP 0, iP 1, iP 0, iP 0, iP 1, iP 0, iP 0, iP 1]),
    (7, .cells true 0 [iP 1, iP 1, iP 1])],
   [],
   .tuple ⟨[.agg ⟨[iP 0, iP 0]⟩, iP 4]⟩⟩
theorem pb6_ok : pb6.okS EE.G = true := by kernel_rfl
theorem pb6_run : evT EE paT 1000000000 (.call pb6.f pb6.args) pb6.heap (keptK pb6) = some (.bool true) := by kernel_rfl
theorem pb6_h : pb6.holds EE := ent_run envOk paT_holds _ _ pb6_ok pb6_run
-- decani/office.Falls, 11693 steps
noncomputable def pb27 : Ent :=
  ⟨9, [.agg ⟨[iP 2, iP 0, .slice (some ⟨6, 0, none⟩) 4 18446744073709551616, .slice (some ⟨7, 0, none⟩) 1 1, .bool false, .slice none 0 0, .bool false, .slice none 0 0]⟩, iP 0, iP 0], 8,
   gB ++ [(6, .cells true 4 [iP 0, iP 0, iP 1, iP 0, iP 0, iP 1, iP 0, iP 0, iP 1, iP 0, iP 0, iP 1]),
    (7, .cells true 0 [iP 1, iP 1, iP 1])],
   [],
   .tuple ⟨[.agg ⟨[iP 0, iP 0]⟩, iP 0]⟩⟩
theorem pb27_ok : pb27.okS EE.G = true := by kernel_rfl
theorem pb27_run : evT EE paT 1000000000 (.call pb27.f pb27.args) pb27.heap (keptK pb27) = some (.bool true) := by kernel_rfl
theorem pb27_h : pb27.holds EE := ent_run envOk paT_holds _ _ pb27_ok pb27_run
-- decani/office.Chief, 7995 steps
noncomputable def pb48 : Ent :=
  ⟨14, [.agg ⟨[iP 3, iP 0, .slice (some ⟨6, 0, none⟩) 2 18446744073709551616, .slice (some ⟨7, 0, none⟩) 1 1, .bool false, .slice none 0 0, .bool false, .slice none 0 0]⟩, iP 0, iP 0], 8,
   gB ++ [(6, .cells true 4 [iP 0, iP 0, iP 1, iP 0, iP 0, iP 1]),
    (7, .cells true 0 [iP 1, iP 1, iP 1])],
   [.cells true 2 [iP 0]],
   .tuple ⟨[.slice (some ⟨8, 0, none⟩) 1 18446744073709551616, iP 0]⟩⟩
theorem pb48_ok : pb48.okS EE.G = true := by kernel_rfl
theorem pb48_run : evT EE paT 1000000000 (.call pb48.f pb48.args) pb48.heap (keptK pb48) = some (.bool true) := by kernel_rfl
theorem pb48_h : pb48.holds EE := ent_run envOk paT_holds _ _ pb48_ok pb48_run
-- decani/office.Falls, 10949 steps
noncomputable def pb69 : Ent :=
  ⟨9, [.agg ⟨[iP 3, iP 0, .slice (some ⟨6, 0, none⟩) 3 18446744073709551616, .slice (some ⟨7, 0, none⟩) 1 1, .bool false, .slice none 0 0, .bool false, .slice none 0 0]⟩, iP 0, iP 2], 8,
   gB ++ [(6, .cells true 4 [iP 0, iP 0, iP 1, iP 0, iP 0, iP 1, iP 0, iP 0, iP 1]),
    (7, .cells true 0 [iP 1, iP 1, iP 1])],
   [],
   .tuple ⟨[.agg ⟨[iP 2, iP 2]⟩, iP 0]⟩⟩
theorem pb69_ok : pb69.okS EE.G = true := by kernel_rfl
theorem pb69_run : evT EE paT 1000000000 (.call pb69.f pb69.args) pb69.heap (keptK pb69) = some (.bool true) := by kernel_rfl
theorem pb69_h : pb69.holds EE := ent_run envOk paT_holds _ _ pb69_ok pb69_run
-- decani/office.Falls, 14222 steps
noncomputable def pb90 : Ent :=
  ⟨9, [.agg ⟨[iP 3, iP 0, .slice (some ⟨6, 0, none⟩) 4 18446744073709551616, .slice (some ⟨7, 0, none⟩) 1 1, .bool false, .slice none 0 0, .bool false, .slice none 0 0]⟩, iP 0, iP 1], 8,
   gB ++ [(6, .cells true 4 [iP 0, iP 0, iP 1, iP 0, iP 0, iP 1, iP 0, iP 0, iP 1, iP 0, iP 0, iP 1]),
    (7, .cells true 0 [iP 1, iP 1, iP 1])],
   [],
   .tuple ⟨[.agg ⟨[iP 1, iP 1]⟩, iP 0]⟩⟩
theorem pb90_ok : pb90.okS EE.G = true := by kernel_rfl
theorem pb90_run : evT EE paT 1000000000 (.call pb90.f pb90.args) pb90.heap (keptK pb90) = some (.bool true) := by kernel_rfl
theorem pb90_h : pb90.holds EE := ent_run envOk paT_holds _ _ pb90_ok pb90_run
-- decani/office.Falls, 12280 steps
noncomputable def pb111 : Ent :=
  ⟨9, [.agg ⟨[iP 3, iP 0, .slice (some ⟨6, 0, none⟩) 4 18446744073709551616, .slice (some ⟨7, 0, none⟩) 1 1, .bool false, .slice none 0 0, .bool false, .slice none 0 0]⟩, iP 0, iP 1], 8,
   gB ++ [(6, .cells true 4 [iP 2, iP 2, iP 1, iP 2, iP 2, iP 1, iP 2, iP 2, iP 1, iP 2, iP 2, iP 1]),
    (7, .cells true 0 [iP 1, iP 1, iP 1])],
   [],
   .tuple ⟨[.agg ⟨[iP 0, iP 0]⟩, iP 4]⟩⟩
theorem pb111_ok : pb111.okS EE.G = true := by kernel_rfl
theorem pb111_run : evT EE paT 1000000000 (.call pb111.f pb111.args) pb111.heap (keptK pb111) = some (.bool true) := by kernel_rfl
theorem pb111_h : pb111.holds EE := ent_run envOk paT_holds _ _ pb111_ok pb111_run
-- decani/office.Falls, 9551 steps
noncomputable def pb132 : Ent :=
  ⟨9, [.agg ⟨[iP 4, iP 0, .slice (some ⟨6, 0, none⟩) 2 18446744073709551616, .slice (some ⟨7, 0, none⟩) 1 1, .bool false, .slice none 0 0, .bool false, .slice none 0 0]⟩, iP 0, iP 1], 8,
   gB ++ [(6, .cells true 4 [iP 1, iP 1, iP 1, iP 1, iP 1, iP 1]),
    (7, .cells true 0 [iP 1, iP 1, iP 1])],
   [],
   .tuple ⟨[.agg ⟨[iP 2, iP 2]⟩, iP 0]⟩⟩
theorem pb132_ok : pb132.okS EE.G = true := by kernel_rfl
theorem pb132_run : evT EE paT 1000000000 (.call pb132.f pb132.args) pb132.heap (keptK pb132) = some (.bool true) := by kernel_rfl
theorem pb132_h : pb132.holds EE := ent_run envOk paT_holds _ _ pb132_ok pb132_run
-- decani/office.Kept, 12483 steps
noncomputable def pb153 : Ent :=
  ⟨11, [.agg ⟨[iP 4, iP 0, .slice (some ⟨6, 0, none⟩) 3 18446744073709551616, .slice (some ⟨7, 0, none⟩) 1 1, .bool false, .slice none 0 0, .bool false, .slice none 0 0]⟩, iP 0, iP 2], 8,
   gB ++ [(6, .cells true 4 [iP 0, iP 0, iP 1, iP 0, iP 0, iP 1, iP 0, iP 0, iP 1]),
    (7, .cells true 0 [iP 1, iP 1, iP 1])],
   [],
   .tuple ⟨[iP 2, iP 0]⟩⟩
theorem pb153_ok : pb153.okS EE.G = true := by kernel_rfl
theorem pb153_run : evT EE paT 1000000000 (.call pb153.f pb153.args) pb153.heap (keptK pb153) = some (.bool true) := by kernel_rfl
theorem pb153_h : pb153.holds EE := ent_run envOk paT_holds _ _ pb153_ok pb153_run
-- decani/office.Chief, 11687 steps
noncomputable def pb174 : Ent :=
  ⟨14, [.agg ⟨[iP 4, iP 0, .slice (some ⟨6, 0, none⟩) 3 18446744073709551616, .slice (some ⟨7, 0, none⟩) 1 1, .bool false, .slice none 0 0, .bool false, .slice none 0 0]⟩, iP 0, iP 3], 8,
   gB ++ [(6, .cells true 4 [iP 3, iP 3, iP 1, iP 3, iP 3, iP 1, iP 3, iP 3, iP 1]),
    (7, .cells true 0 [iP 1, iP 1, iP 1])],
   [.cells true 2 [iP 0]],
   .tuple ⟨[.slice (some ⟨8, 0, none⟩) 1 18446744073709551616, iP 0]⟩⟩
theorem pb174_ok : pb174.okS EE.G = true := by kernel_rfl
theorem pb174_run : evT EE paT 1000000000 (.call pb174.f pb174.args) pb174.heap (keptK pb174) = some (.bool true) := by kernel_rfl
theorem pb174_h : pb174.holds EE := ent_run envOk paT_holds _ _ pb174_ok pb174_run
-- decani/office.Kept, 15995 steps
noncomputable def pb195 : Ent :=
  ⟨11, [.agg ⟨[iP 4, iP 0, .slice (some ⟨6, 0, none⟩) 4 18446744073709551616, .slice (some ⟨7, 0, none⟩) 1 1, .bool false, .slice none 0 0, .bool false, .slice none 0 0]⟩, iP 0, iP 1], 8,
   gB ++ [(6, .cells true 4 [iP 1, iP 1, iP 1, iP 1, iP 1, iP 1, iP 1, iP 1, iP 1, iP 1, iP 1, iP 1]),
    (7, .cells true 0 [iP 1, iP 1, iP 1])],
   [],
   .tuple ⟨[iP 2, iP 0]⟩⟩
theorem pb195_ok : pb195.okS EE.G = true := by kernel_rfl
theorem pb195_run : evT EE paT 1000000000 (.call pb195.f pb195.args) pb195.heap (keptK pb195) = some (.bool true) := by kernel_rfl
theorem pb195_h : pb195.holds EE := ent_run envOk paT_holds _ _ pb195_ok pb195_run
-- decani/office.Kept, 14130 steps
noncomputable def pb216 : Ent :=
  ⟨11, [.agg ⟨[iP 4, iP 0, .slice (some ⟨6, 0, none⟩) 4 18446744073709551616, .slice (some ⟨7, 0, none⟩) 1 1, .bool false, .slice none 0 0, .bool false, .slice none 0 0]⟩, iP 0, iP 1], 8,
   gB ++ [(6, .cells true 4 [iP 3, iP 3, iP 1, iP 3, iP 3, iP 1, iP 3, iP 3, iP 1, iP 3, iP 3, iP 1]),
    (7, .cells true 0 [iP 1, iP 1, iP 1])],
   [],
   .tuple ⟨[iP 0, iP 0]⟩⟩
theorem pb216_ok : pb216.okS EE.G = true := by kernel_rfl
theorem pb216_run : evT EE paT 1000000000 (.call pb216.f pb216.args) pb216.heap (keptK pb216) = some (.bool true) := by kernel_rfl
theorem pb216_h : pb216.holds EE := ent_run envOk paT_holds _ _ pb216_ok pb216_run
-- decani/office.Kept, 10795 steps
noncomputable def pb237 : Ent :=
  ⟨11, [.agg ⟨[iP 5, iP 0, .slice (some ⟨6, 0, none⟩) 2 18446744073709551616, .slice (some ⟨7, 0, none⟩) 1 1, .bool false, .slice none 0 0, .bool false, .slice none 0 0]⟩, iP 0, iP 0], 8,
   gB ++ [(6, .cells true 4 [iP 0, iP 0, iP 1, iP 0, iP 0, iP 1]),
    (7, .cells true 0 [iP 1, iP 1, iP 1])],
   [],
   .tuple ⟨[iP 2, iP 0]⟩⟩
theorem pb237_ok : pb237.okS EE.G = true := by kernel_rfl
theorem pb237_run : evT EE paT 1000000000 (.call pb237.f pb237.args) pb237.heap (keptK pb237) = some (.bool true) := by kernel_rfl
theorem pb237_h : pb237.holds EE := ent_run envOk paT_holds _ _ pb237_ok pb237_run
-- decani/office.Kept, 10999 steps
noncomputable def pb258 : Ent :=
  ⟨11, [.agg ⟨[iP 5, iP 0, .slice (some ⟨6, 0, none⟩) 2 18446744073709551616, .slice (some ⟨7, 0, none⟩) 1 1, .bool false, .slice none 0 0, .bool false, .slice none 0 0]⟩, iP 0, iP 1], 8,
   gB ++ [(6, .cells true 4 [iP 3, iP 3, iP 1, iP 3, iP 3, iP 1]),
    (7, .cells true 0 [iP 1, iP 1, iP 1])],
   [],
   .tuple ⟨[iP 2, iP 0]⟩⟩
theorem pb258_ok : pb258.okS EE.G = true := by kernel_rfl
theorem pb258_run : evT EE paT 1000000000 (.call pb258.f pb258.args) pb258.heap (keptK pb258) = some (.bool true) := by kernel_rfl
theorem pb258_h : pb258.holds EE := ent_run envOk paT_holds _ _ pb258_ok pb258_run
-- decani/office.Chief, 14065 steps
noncomputable def pb279 : Ent :=
  ⟨14, [.agg ⟨[iP 5, iP 0, .slice (some ⟨6, 0, none⟩) 3 18446744073709551616, .slice (some ⟨7, 0, none⟩) 1 1, .bool false, .slice none 0 0, .bool false, .slice none 0 0]⟩, iP 0, iP 2], 8,
   gB ++ [(6, .cells true 4 [iP 1, iP 1, iP 1, iP 1, iP 1, iP 1, iP 1, iP 1, iP 1]),
    (7, .cells true 0 [iP 1, iP 1, iP 1])],
   [.cells true 2 [iP 1]],
   .tuple ⟨[.slice (some ⟨8, 0, none⟩) 1 18446744073709551616, iP 0]⟩⟩
theorem pb279_ok : pb279.okS EE.G = true := by kernel_rfl
theorem pb279_run : evT EE paT 1000000000 (.call pb279.f pb279.args) pb279.heap (keptK pb279) = some (.bool true) := by kernel_rfl
theorem pb279_h : pb279.holds EE := ent_run envOk paT_holds _ _ pb279_ok pb279_run
-- decani/office.Chief, 13307 steps
noncomputable def pb300 : Ent :=
  ⟨14, [.agg ⟨[iP 5, iP 0, .slice (some ⟨6, 0, none⟩) 3 18446744073709551616, .slice (some ⟨7, 0, none⟩) 1 1, .bool false, .slice none 0 0, .bool false, .slice none 0 0]⟩, iP 0, iP 4], 8,
   gB ++ [(6, .cells true 4 [iP 4, iP 4, iP 1, iP 4, iP 4, iP 1, iP 4, iP 4, iP 1]),
    (7, .cells true 0 [iP 1, iP 1, iP 1])],
   [.cells true 2 [iP 0]],
   .tuple ⟨[.slice (some ⟨8, 0, none⟩) 1 18446744073709551616, iP 0]⟩⟩
theorem pb300_ok : pb300.okS EE.G = true := by kernel_rfl
theorem pb300_run : evT EE paT 1000000000 (.call pb300.f pb300.args) pb300.heap (keptK pb300) = some (.bool true) := by kernel_rfl
theorem pb300_h : pb300.holds EE := ent_run envOk paT_holds _ _ pb300_ok pb300_run
-- decani/office.Kept, 17891 steps
noncomputable def pb321 : Ent :=
  ⟨11, [.agg ⟨[iP 5, iP 0, .slice (some ⟨6, 0, none⟩) 4 18446744073709551616, .slice (some ⟨7, 0, none⟩) 1 1, .bool false, .slice none 0 0, .bool false, .slice none 0 0]⟩, iP 0, iP 1], 8,
   gB ++ [(6, .cells true 4 [iP 1, iP 1, iP 1, iP 1, iP 1, iP 1, iP 1, iP 1, iP 1, iP 1, iP 1, iP 1]),
    (7, .cells true 0 [iP 1, iP 1, iP 1])],
   [],
   .tuple ⟨[iP 2, iP 0]⟩⟩
theorem pb321_ok : pb321.okS EE.G = true := by kernel_rfl
theorem pb321_run : evT EE paT 1000000000 (.call pb321.f pb321.args) pb321.heap (keptK pb321) = some (.bool true) := by kernel_rfl
theorem pb321_h : pb321.holds EE := ent_run envOk paT_holds _ _ pb321_ok pb321_run
-- decani/office.Chief, 17095 steps
noncomputable def pb342 : Ent :=
  ⟨14, [.agg ⟨[iP 5, iP 0, .slice (some ⟨6, 0, none⟩) 4 18446744073709551616, .slice (some ⟨7, 0, none⟩) 1 1, .bool false, .slice none 0 0, .bool false, .slice none 0 0]⟩, iP 0, iP 3], 8,
   gB ++ [(6, .cells true 4 [iP 3, iP 3, iP 1, iP 3, iP 3, iP 1, iP 3, iP 3, iP 1, iP 3, iP 3, iP 1]),
    (7, .cells true 0 [iP 1, iP 1, iP 1])],
   [.cells true 2 [iP 0]],
   .tuple ⟨[.slice (some ⟨8, 0, none⟩) 1 18446744073709551616, iP 0]⟩⟩
theorem pb342_ok : pb342.okS EE.G = true := by kernel_rfl
theorem pb342_run : evT EE paT 1000000000 (.call pb342.f pb342.args) pb342.heap (keptK pb342) = some (.bool true) := by kernel_rfl
theorem pb342_h : pb342.holds EE := ent_run envOk paT_holds _ _ pb342_ok pb342_run
-- decani/office.Kept, 9466 steps
noncomputable def pb363 : Ent :=
  ⟨11, [.agg ⟨[iP 6, iP 0, .slice (some ⟨6, 0, none⟩) 1 18446744073709551616, .slice (some ⟨7, 0, none⟩) 1 1, .bool false, .slice none 0 0, .bool false, .slice none 0 0]⟩, iP 0, iP 0], 8,
   gB ++ [(6, .cells true 4 [iP 1, iP 1, iP 1]),
    (7, .cells true 0 [iP 1, iP 1, iP 1])],
   [],
   .tuple ⟨[iP 2, iP 0]⟩⟩
theorem pb363_ok : pb363.okS EE.G = true := by kernel_rfl
theorem pb363_run : evT EE paT 1000000000 (.call pb363.f pb363.args) pb363.heap (keptK pb363) = some (.bool true) := by kernel_rfl
theorem pb363_h : pb363.holds EE := ent_run envOk paT_holds _ _ pb363_ok pb363_run
-- decani/office.Kept, 12278 steps
noncomputable def pb384 : Ent :=
  ⟨11, [.agg ⟨[iP 6, iP 0, .slice (some ⟨6, 0, none⟩) 2 18446744073709551616, .slice (some ⟨7, 0, none⟩) 1 1, .bool false, .slice none 0 0, .bool false, .slice none 0 0]⟩, iP 0, iP 0], 8,
   gB ++ [(6, .cells true 4 [iP 1, iP 1, iP 1, iP 1, iP 1, iP 1]),
    (7, .cells true 0 [iP 1, iP 1, iP 1])],
   [],
   .tuple ⟨[iP 2, iP 0]⟩⟩
theorem pb384_ok : pb384.okS EE.G = true := by kernel_rfl
theorem pb384_run : evT EE paT 1000000000 (.call pb384.f pb384.args) pb384.heap (keptK pb384) = some (.bool true) := by kernel_rfl
theorem pb384_h : pb384.holds EE := ent_run envOk paT_holds _ _ pb384_ok pb384_run
-- decani/office.Kept, 12482 steps
noncomputable def pb405 : Ent :=
  ⟨11, [.agg ⟨[iP 6, iP 0, .slice (some ⟨6, 0, none⟩) 2 18446744073709551616, .slice (some ⟨7, 0, none⟩) 1 1, .bool false, .slice none 0 0, .bool false, .slice none 0 0]⟩, iP 0, iP 1], 8,
   gB ++ [(6, .cells true 4 [iP 4, iP 4, iP 1, iP 4, iP 4, iP 1]),
    (7, .cells true 0 [iP 1, iP 1, iP 1])],
   [],
   .tuple ⟨[iP 2, iP 0]⟩⟩
theorem pb405_ok : pb405.okS EE.G = true := by kernel_rfl
theorem pb405_run : evT EE paT 1000000000 (.call pb405.f pb405.args) pb405.heap (keptK pb405) = some (.bool true) := by kernel_rfl
theorem pb405_h : pb405.holds EE := ent_run envOk paT_holds _ _ pb405_ok pb405_run
-- decani/office.Chief, 15685 steps
noncomputable def pb426 : Ent :=
  ⟨14, [.agg ⟨[iP 6, iP 0, .slice (some ⟨6, 0, none⟩) 3 18446744073709551616, .slice (some ⟨7, 0, none⟩) 1 1, .bool false, .slice none 0 0, .bool false, .slice none 0 0]⟩, iP 0, iP 2], 8,
   gB ++ [(6, .cells true 4 [iP 1, iP 1, iP 1, iP 1, iP 1, iP 1, iP 1, iP 1, iP 1]),
    (7, .cells true 0 [iP 1, iP 1, iP 1])],
   [.cells true 2 [iP 1]],
   .tuple ⟨[.slice (some ⟨8, 0, none⟩) 1 18446744073709551616, iP 0]⟩⟩
theorem pb426_ok : pb426.okS EE.G = true := by kernel_rfl
theorem pb426_run : evT EE paT 1000000000 (.call pb426.f pb426.args) pb426.heap (keptK pb426) = some (.bool true) := by kernel_rfl
theorem pb426_h : pb426.holds EE := ent_run envOk paT_holds _ _ pb426_ok pb426_run
-- decani/office.Chief, 15685 steps
noncomputable def pb447 : Ent :=
  ⟨14, [.agg ⟨[iP 6, iP 0, .slice (some ⟨6, 0, none⟩) 3 18446744073709551616, .slice (some ⟨7, 0, none⟩) 1 1, .bool false, .slice none 0 0, .bool false, .slice none 0 0]⟩, iP 0, iP 5], 8,
   gB ++ [(6, .cells true 4 [iP 3, iP 3, iP 1, iP 3, iP 3, iP 1, iP 3, iP 3, iP 1]),
    (7, .cells true 0 [iP 1, iP 1, iP 1])],
   [.cells true 2 [iP 2]],
   .tuple ⟨[.slice (some ⟨8, 0, none⟩) 1 18446744073709551616, iP 0]⟩⟩
theorem pb447_ok : pb447.okS EE.G = true := by kernel_rfl
theorem pb447_run : evT EE paT 1000000000 (.call pb447.f pb447.args) pb447.heap (keptK pb447) = some (.bool true) := by kernel_rfl
theorem pb447_h : pb447.holds EE := ent_run envOk paT_holds _ _ pb447_ok pb447_run
-- decani/office.Chief, 19661 steps
noncomputable def pb468 : Ent :=
  ⟨14, [.agg ⟨[iP 6, iP 0, .slice (some ⟨6, 0, none⟩) 4 18446744073709551616, .slice (some ⟨7, 0, none⟩) 1 1, .bool false, .slice none 0 0, .bool false, .slice none 0 0]⟩, iP 0, iP 1], 8,
   gB ++ [(6, .cells true 4 [iP 0, iP 0, iP 1, iP 0, iP 0, iP 1, iP 0, iP 0, iP 1, iP 0, iP 0, iP 1]),
    (7, .cells true 0 [iP 1, iP 1, iP 1])],
   [.cells true 2 [iP 1]],
   .tuple ⟨[.slice (some ⟨8, 0, none⟩) 1 18446744073709551616, iP 0]⟩⟩
theorem pb468_ok : pb468.okS EE.G = true := by kernel_rfl
theorem pb468_run : evT EE paT 1000000000 (.call pb468.f pb468.args) pb468.heap (keptK pb468) = some (.bool true) := by kernel_rfl
theorem pb468_h : pb468.holds EE := ent_run envOk paT_holds _ _ pb468_ok pb468_run
-- decani/office.Chief, 19661 steps
noncomputable def pb489 : Ent :=
  ⟨14, [.agg ⟨[iP 6, iP 0, .slice (some ⟨6, 0, none⟩) 4 18446744073709551616, .slice (some ⟨7, 0, none⟩) 1 1, .bool false, .slice none 0 0, .bool false, .slice none 0 0]⟩, iP 0, iP 2], 8,
   gB ++ [(6, .cells true 4 [iP 2, iP 2, iP 1, iP 2, iP 2, iP 1, iP 2, iP 2, iP 1, iP 2, iP 2, iP 1]),
    (7, .cells true 0 [iP 1, iP 1, iP 1])],
   [.cells true 2 [iP 0]],
   .tuple ⟨[.slice (some ⟨8, 0, none⟩) 1 18446744073709551616, iP 0]⟩⟩
theorem pb489_ok : pb489.okS EE.G = true := by kernel_rfl
theorem pb489_run : evT EE paT 1000000000 (.call pb489.f pb489.args) pb489.heap (keptK pb489) = some (.bool true) := by kernel_rfl
theorem pb489_h : pb489.holds EE := ent_run envOk paT_holds _ _ pb489_ok pb489_run
-- decani/office.Falls, 19129 steps
noncomputable def pb510 : Ent :=
  ⟨9, [.agg ⟨[iP 6, iP 0, .slice (some ⟨6, 0, none⟩) 4 18446744073709551616, .slice (some ⟨7, 0, none⟩) 1 1, .bool false, .slice none 0 0, .bool false, .slice none 0 0]⟩, iP 0, iP 0], 8,
   gB ++ [(6, .cells true 4 [iP 4, iP 4, iP 1, iP 4, iP 4, iP 1, iP 4, iP 4, iP 1, iP 4, iP 4, iP 1]),
    (7, .cells true 0 [iP 1, iP 1, iP 1])],
   [],
   .tuple ⟨[.agg ⟨[iP 4, iP 4]⟩, iP 0]⟩⟩
theorem pb510_ok : pb510.okS EE.G = true := by kernel_rfl
theorem pb510_run : evT EE paT 1000000000 (.call pb510.f pb510.args) pb510.heap (keptK pb510) = some (.bool true) := by kernel_rfl
theorem pb510_h : pb510.holds EE := ent_run envOk paT_holds _ _ pb510_ok pb510_run
-- decani/office.Chief, 6991 steps
noncomputable def pb531 : Ent :=
  ⟨14, [.agg ⟨[iP 4, iP 0, .slice (some ⟨6, 0, none⟩) 1 18446744073709551616, .slice (some ⟨7, 0, none⟩) 1 1, .bool false, .slice none 0 0, .bool false, .slice none 0 0]⟩, iP 0, iP 2], 8,
   gB ++ [(6, .cells true 4 [iP 2, iP 2, iP 1]),
    (7, .cells true 0 [iP 1, iP 1, iP 1])],
   [.cells true 2 [iP 0]],
   .tuple ⟨[.slice (some ⟨8, 0, none⟩) 1 18446744073709551616, iP 0]⟩⟩
theorem pb531_ok : pb531.okS EE.G = true := by kernel_rfl
theorem pb531_run : evT EE paT 1000000000 (.call pb531.f pb531.args) pb531.heap (keptK pb531) = some (.bool true) := by kernel_rfl
theorem pb531_h : pb531.holds EE := ent_run envOk paT_holds _ _ pb531_ok pb531_run
-- decani/office.Kept, 5683 steps
noncomputable def pb561 : Ent :=
  ⟨11, [.agg ⟨[iP 3, iP 0, .slice (some ⟨6, 0, none⟩) 1 18446744073709551616, .slice (some ⟨7, 0, none⟩) 1 1, .bool false, .slice none 0 0, .bool false, .slice none 0 0]⟩, iP 0, iP 0], 8,
   gB ++ [(6, .cells true 4 [iP 0, iP 0, iP 1]),
    (7, .cells true 0 [iP 1, iP 1, iP 1])],
   [],
   .tuple ⟨[iP 2, iP 0]⟩⟩
theorem pb561_ok : pb561.okS EE.G = true := by kernel_rfl
theorem pb561_run : evT EE paT 1000000000 (.call pb561.f pb561.args) pb561.heap (keptK pb561) = some (.bool true) := by kernel_rfl
theorem pb561_h : pb561.holds EE := ent_run envOk paT_holds _ _ pb561_ok pb561_run
end Go.Proofs.YtmjpnohpmfmdlaaGreatDoor
