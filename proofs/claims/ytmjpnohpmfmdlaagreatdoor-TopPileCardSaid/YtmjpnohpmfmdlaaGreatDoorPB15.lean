/- Known calls, part 15: what single calls hand back, at small heaps, by the kernel's own run of the evaluator. No conditions. -/
import Derived.Test.YtmjpnohpmfmdlaaGreatDoorPAT
set_option linter.all false
namespace Go.Proofs.YtmjpnohpmfmdlaaGreatDoor
open Go.Ai
set_option maxRecDepth 1000000
-- decani/office.Falls, 9190 steps
noncomputable def pb15 : Ent :=
  ⟨9, [.agg ⟨[iP 2, iP 0, .slice (some ⟨6, 0, none⟩) 3 18446744073709551616, .slice (some ⟨7, 0, none⟩) 1 1, .bool false, .slice none 0 0, .bool false, .slice none 0 0]⟩, iP 0, iP 1], 8,
   gB ++ [(6, .cells true 4 [iP 0, iP 0, iP 1, iP 0, iP 0, iP 1, iP 0, iP 0, iP 1]),
    (7, .cells true 0 [iP 1, iP 1, iP 1])],
   [],
   .tuple ⟨[.agg ⟨[iP 1, iP 1]⟩, iP 0]⟩⟩
theorem pb15_ok : pb15.okS EE.G = true := by kernel_rfl
theorem pb15_run : evT EE paT 1000000000 (.call pb15.f pb15.args) pb15.heap (keptK pb15) = some (.bool true) := by kernel_rfl
theorem pb15_h : pb15.holds EE := ent_run envOk paT_holds _ _ pb15_ok pb15_run
-- decani/office.Kept, 11664 steps
noncomputable def pb36 : Ent :=
  ⟨11, [.agg ⟨[iP 2, iP 0, .slice (some ⟨6, 0, none⟩) 4 18446744073709551616, .slice (some ⟨7, 0, none⟩) 1 1, .bool false, .slice none 0 0, .bool false, .slice none 0 0]⟩, iP 0, iP 3], 8,
   gB ++ [(6, .cells true 4 [iP 0, iP 0, iP 1, iP 0, iP 0, iP 1, iP 0, iP 0, iP 1, iP 0, iP 0, iP 1]),
    (7, .cells true 0 [iP 1, iP 1, iP 1])],
   [],
   .tuple ⟨[iP 0, iP 0]⟩⟩
theorem pb36_ok : pb36.okS EE.G = true := by kernel_rfl
theorem pb36_run : evT EE paT 1000000000 (.call pb36.f pb36.args) pb36.heap (keptK pb36) = some (.bool true) := by kernel_rfl
theorem pb36_h : pb36.holds EE := ent_run envOk paT_holds _ _ pb36_ok pb36_run
-- decani/office.Chief, 7995 steps
noncomputable def pb57 : Ent :=
  ⟨14, [.agg ⟨[iP 3, iP 0, .slice (some ⟨6, 0, none⟩) 2 18446744073709551616, .slice (some ⟨7, 0, none⟩) 1 1, .bool false, .slice none 0 0, .bool false, .slice none 0 0]⟩, iP 0, iP 2], 8,
   gB ++ [(6, .cells true 4 [iP 1, iP 1, iP 1, iP 1, iP 1, iP 1]),
    (7, .cells true 0 [iP 1, iP 1, iP 1])],
   [.cells true 2 [iP 1]],
   .tuple ⟨[.slice (some ⟨8, 0, none⟩) 1 18446744073709551616, iP 0]⟩⟩
theorem pb57_ok : pb57.okS EE.G = true := by kernel_rfl
theorem pb57_run : evT EE paT 1000000000 (.call pb57.f pb57.args) pb57.heap (keptK pb57) = some (.bool true) := by kernel_rfl
theorem pb57_h : pb57.holds EE := ent_run envOk paT_holds _ _ pb57_ok pb57_run
-- decani/office.Falls, 10790 steps
noncomputable def pb78 : Ent :=
  ⟨9, [.agg ⟨[iP 3, iP 0, .slice (some ⟨6, 0, none⟩) 3 18446744073709551616, .slice (some ⟨7, 0, none⟩) 1 1, .bool false, .slice none 0 0, .bool false, .slice none 0 0]⟩, iP 0, iP 2], 8,
   gB ++ [(6, .cells true 4 [iP 1, iP 1, iP 1, iP 1, iP 1, iP 1, iP 1, iP 1, iP 1]),
    (7, .cells true 0 [iP 1, iP 1, iP 1])],
   [],
   .tuple ⟨[.agg ⟨[iP 0, iP 0]⟩, iP 4]⟩⟩
theorem pb78_ok : pb78.okS EE.G = true := by kernel_rfl
theorem pb78_run : evT EE paT 1000000000 (.call pb78.f pb78.args) pb78.heap (keptK pb78) = some (.bool true) := by kernel_rfl
theorem pb78_h : pb78.holds EE := ent_run envOk paT_holds _ _ pb78_ok pb78_run
-- decani/office.Kept, 13466 steps
noncomputable def pb99 : Ent :=
  ⟨11, [.agg ⟨[iP 3, iP 0, .slice (some ⟨6, 0, none⟩) 4 18446744073709551616, .slice (some ⟨7, 0, none⟩) 1 1, .bool false, .slice none 0 0, .bool false, .slice none 0 0]⟩, iP 0, iP 0], 8,
   gB ++ [(6, .cells true 4 [iP 1, iP 1, iP 1, iP 1, iP 1, iP 1, iP 1, iP 1, iP 1, iP 1, iP 1, iP 1]),
    (7, .cells true 0 [iP 1, iP 1, iP 1])],
   [],
   .tuple ⟨[iP 2, iP 0]⟩⟩
theorem pb99_ok : pb99.okS EE.G = true := by kernel_rfl
theorem pb99_run : evT EE paT 1000000000 (.call pb99.f pb99.args) pb99.heap (keptK pb99) = some (.bool true) := by kernel_rfl
theorem pb99_h : pb99.holds EE := ent_run envOk paT_holds _ _ pb99_ok pb99_run
-- decani/office.Kept, 7029 steps
noncomputable def pb120 : Ent :=
  ⟨11, [.agg ⟨[iP 4, iP 0, .slice (some ⟨6, 0, none⟩) 1 18446744073709551616, .slice (some ⟨7, 0, none⟩) 1 1, .bool false, .slice none 0 0, .bool false, .slice none 0 0]⟩, iP 0, iP 0], 8,
   gB ++ [(6, .cells true 4 [iP 2, iP 2, iP 1]),
    (7, .cells true 0 [iP 1, iP 1, iP 1])],
   [],
   .tuple ⟨[iP 2, iP 0]⟩⟩
theorem pb120_ok : pb120.okS EE.G = true := by kernel_rfl
theorem pb120_run : evT EE paT 1000000000 (.call pb120.f pb120.args) pb120.heap (keptK pb120) = some (.bool true) := by kernel_rfl
theorem pb120_h : pb120.holds EE := ent_run envOk paT_holds _ _ pb120_ok pb120_run
-- decani/office.Falls, 9514 steps
noncomputable def pb141 : Ent :=
  ⟨9, [.agg ⟨[iP 4, iP 0, .slice (some ⟨6, 0, none⟩) 2 18446744073709551616, .slice (some ⟨7, 0, none⟩) 1 1, .bool false, .slice none 0 0, .bool false, .slice none 0 0]⟩, iP 0, iP 0], 8,
   gB ++ [(6, .cells true 4 [iP 3, iP 3, iP 1, iP 3, iP 3, iP 1]),
    (7, .cells true 0 [iP 1, iP 1, iP 1])],
   [],
   .tuple ⟨[.agg ⟨[iP 3, iP 3]⟩, iP 0]⟩⟩
theorem pb141_ok : pb141.okS EE.G = true := by kernel_rfl
theorem pb141_run : evT EE paT 1000000000 (.call pb141.f pb141.args) pb141.heap (keptK pb141) = some (.bool true) := by kernel_rfl
theorem pb141_h : pb141.holds EE := ent_run envOk paT_holds _ _ pb141_ok pb141_run
-- decani/office.Kept, 12534 steps
noncomputable def pb162 : Ent :=
  ⟨11, [.agg ⟨[iP 4, iP 0, .slice (some ⟨6, 0, none⟩) 3 18446744073709551616, .slice (some ⟨7, 0, none⟩) 1 1, .bool false, .slice none 0 0, .bool false, .slice none 0 0]⟩, iP 0, iP 2], 8,
   gB ++ [(6, .cells true 4 [iP 1, iP 1, iP 1, iP 1, iP 1, iP 1, iP 1, iP 1, iP 1]),
    (7, .cells true 0 [iP 1, iP 1, iP 1])],
   [],
   .tuple ⟨[iP 2, iP 0]⟩⟩
theorem pb162_ok : pb162.okS EE.G = true := by kernel_rfl
theorem pb162_run : evT EE paT 1000000000 (.call pb162.f pb162.args) pb162.heap (keptK pb162) = some (.bool true) := by kernel_rfl
theorem pb162_h : pb162.holds EE := ent_run envOk paT_holds _ _ pb162_ok pb162_run
-- decani/office.Kept, 16032 steps
noncomputable def pb183 : Ent :=
  ⟨11, [.agg ⟨[iP 4, iP 0, .slice (some ⟨6, 0, none⟩) 4 18446744073709551616, .slice (some ⟨7, 0, none⟩) 1 1, .bool false, .slice none 0 0, .bool false, .slice none 0 0]⟩, iP 0, iP 1], 8,
   gB ++ [(6, .cells true 4 [iP 0, iP 0, iP 1, iP 0, iP 0, iP 1, iP 0, iP 0, iP 1, iP 0, iP 0, iP 1]),
    (7, .cells true 0 [iP 1, iP 1, iP 1])],
   [],
   .tuple ⟨[iP 2, iP 0]⟩⟩
theorem pb183_ok : pb183.okS EE.G = true := by kernel_rfl
theorem pb183_run : evT EE paT 1000000000 (.call pb183.f pb183.args) pb183.heap (keptK pb183) = some (.bool true) := by kernel_rfl
theorem pb183_h : pb183.holds EE := ent_run envOk paT_holds _ _ pb183_ok pb183_run
-- decani/office.Chief, 15287 steps
noncomputable def pb204 : Ent :=
  ⟨14, [.agg ⟨[iP 4, iP 0, .slice (some ⟨6, 0, none⟩) 4 18446744073709551616, .slice (some ⟨7, 0, none⟩) 1 1, .bool false, .slice none 0 0, .bool false, .slice none 0 0]⟩, iP 0, iP 2], 8,
   gB ++ [(6, .cells true 4 [iP 2, iP 2, iP 1, iP 2, iP 2, iP 1, iP 2, iP 2, iP 1, iP 2, iP 2, iP 1]),
    (7, .cells true 0 [iP 1, iP 1, iP 1])],
   [.cells true 2 [iP 0]],
   .tuple ⟨[.slice (some ⟨8, 0, none⟩) 1 18446744073709551616, iP 0]⟩⟩
theorem pb204_ok : pb204.okS EE.G = true := by kernel_rfl
theorem pb204_run : evT EE paT 1000000000 (.call pb204.f pb204.args) pb204.heap (keptK pb204) = some (.bool true) := by kernel_rfl
theorem pb204_h : pb204.holds EE := ent_run envOk paT_holds _ _ pb204_ok pb204_run
-- decani/office.Kept, 8222 steps
noncomputable def pb225 : Ent :=
  ⟨11, [.agg ⟨[iP 5, iP 0, .slice (some ⟨6, 0, none⟩) 1 18446744073709551616, .slice (some ⟨7, 0, none⟩) 1 1, .bool false, .slice none 0 0, .bool false, .slice none 0 0]⟩, iP 0, iP 0], 8,
   gB ++ [(6, .cells true 4 [iP 1, iP 1, iP 1]),
    (7, .cells true 0 [iP 1, iP 1, iP 1])],
   [],
   .tuple ⟨[iP 2, iP 0]⟩⟩
theorem pb225_ok : pb225.okS EE.G = true := by kernel_rfl
theorem pb225_run : evT EE paT 1000000000 (.call pb225.f pb225.args) pb225.heap (keptK pb225) = some (.bool true) := by kernel_rfl
theorem pb225_h : pb225.holds EE := ent_run envOk paT_holds _ _ pb225_ok pb225_run
-- decani/office.Kept, 10897 steps
noncomputable def pb246 : Ent :=
  ⟨11, [.agg ⟨[iP 5, iP 0, .slice (some ⟨6, 0, none⟩) 2 18446744073709551616, .slice (some ⟨7, 0, none⟩) 1 1, .bool false, .slice none 0 0, .bool false, .slice none 0 0]⟩, iP 0, iP 1], 8,
   gB ++ [(6, .cells true 4 [iP 1, iP 1, iP 1, iP 1, iP 1, iP 1]),
    (7, .cells true 0 [iP 1, iP 1, iP 1])],
   [],
   .tuple ⟨[iP 2, iP 0]⟩⟩
theorem pb246_ok : pb246.okS EE.G = true := by kernel_rfl
theorem pb246_run : evT EE paT 1000000000 (.call pb246.f pb246.args) pb246.heap (keptK pb246) = some (.bool true) := by kernel_rfl
theorem pb246_h : pb246.holds EE := ent_run envOk paT_holds _ _ pb246_ok pb246_run
-- decani/office.Chief, 14065 steps
noncomputable def pb267 : Ent :=
  ⟨14, [.agg ⟨[iP 5, iP 0, .slice (some ⟨6, 0, none⟩) 3 18446744073709551616, .slice (some ⟨7, 0, none⟩) 1 1, .bool false, .slice none 0 0, .bool false, .slice none 0 0]⟩, iP 0, iP 0], 8,
   gB ++ [(6, .cells true 4 [iP 0, iP 0, iP 1, iP 0, iP 0, iP 1, iP 0, iP 0, iP 1]),
    (7, .cells true 0 [iP 1, iP 1, iP 1])],
   [.cells true 2 [iP 0]],
   .tuple ⟨[.slice (some ⟨8, 0, none⟩) 1 18446744073709551616, iP 0]⟩⟩
theorem pb267_ok : pb267.okS EE.G = true := by kernel_rfl
theorem pb267_run : evT EE paT 1000000000 (.call pb267.f pb267.args) pb267.heap (keptK pb267) = some (.bool true) := by kernel_rfl
theorem pb267_h : pb267.holds EE := ent_run envOk paT_holds _ _ pb267_ok pb267_run
-- decani/office.Kept, 14205 steps
noncomputable def pb288 : Ent :=
  ⟨11, [.agg ⟨[iP 5, iP 0, .slice (some ⟨6, 0, none⟩) 3 18446744073709551616, .slice (some ⟨7, 0, none⟩) 1 1, .bool false, .slice none 0 0, .bool false, .slice none 0 0]⟩, iP 0, iP 2], 8,
   gB ++ [(6, .cells true 4 [iP 2, iP 2, iP 1, iP 2, iP 2, iP 1, iP 2, iP 2, iP 1]),
    (7, .cells true 0 [iP 1, iP 1, iP 1])],
   [],
   .tuple ⟨[iP 2, iP 0]⟩⟩
theorem pb288_ok : pb288.okS EE.G = true := by kernel_rfl
theorem pb288_run : evT EE paT 1000000000 (.call pb288.f pb288.args) pb288.heap (keptK pb288) = some (.bool true) := by kernel_rfl
theorem pb288_h : pb288.holds EE := ent_run envOk paT_holds _ _ pb288_ok pb288_run
-- decani/office.Kept, 17840 steps
noncomputable def pb309 : Ent :=
  ⟨11, [.agg ⟨[iP 5, iP 0, .slice (some ⟨6, 0, none⟩) 4 18446744073709551616, .slice (some ⟨7, 0, none⟩) 1 1, .bool false, .slice none 0 0, .bool false, .slice none 0 0]⟩, iP 0, iP 1], 8,
   gB ++ [(6, .cells true 4 [iP 0, iP 0, iP 1, iP 0, iP 0, iP 1, iP 0, iP 0, iP 1, iP 0, iP 0, iP 1]),
    (7, .cells true 0 [iP 1, iP 1, iP 1])],
   [],
   .tuple ⟨[iP 2, iP 0]⟩⟩
theorem pb309_ok : pb309.okS EE.G = true := by kernel_rfl
theorem pb309_run : evT EE paT 1000000000 (.call pb309.f pb309.args) pb309.heap (keptK pb309) = some (.bool true) := by kernel_rfl
theorem pb309_h : pb309.holds EE := ent_run envOk paT_holds _ _ pb309_ok pb309_run
-- decani/office.Kept, 17803 steps
noncomputable def pb330 : Ent :=
  ⟨11, [.agg ⟨[iP 5, iP 0, .slice (some ⟨6, 0, none⟩) 4 18446744073709551616, .slice (some ⟨7, 0, none⟩) 1 1, .bool false, .slice none 0 0, .bool false, .slice none 0 0]⟩, iP 0, iP 0], 8,
   gB ++ [(6, .cells true 4 [iP 2, iP 2, iP 1, iP 2, iP 2, iP 1, iP 2, iP 2, iP 1, iP 2, iP 2, iP 1]),
    (7, .cells true 0 [iP 1, iP 1, iP 1])],
   [],
   .tuple ⟨[iP 2, iP 0]⟩⟩
theorem pb330_ok : pb330.okS EE.G = true := by kernel_rfl
theorem pb330_run : evT EE paT 1000000000 (.call pb330.f pb330.args) pb330.heap (keptK pb330) = some (.bool true) := by kernel_rfl
theorem pb330_h : pb330.holds EE := ent_run envOk paT_holds _ _ pb330_ok pb330_run
-- decani/office.Kept, 15983 steps
noncomputable def pb351 : Ent :=
  ⟨11, [.agg ⟨[iP 5, iP 0, .slice (some ⟨6, 0, none⟩) 4 18446744073709551616, .slice (some ⟨7, 0, none⟩) 1 1, .bool false, .slice none 0 0, .bool false, .slice none 0 0]⟩, iP 0, iP 0], 8,
   gB ++ [(6, .cells true 4 [iP 4, iP 4, iP 1, iP 4, iP 4, iP 1, iP 4, iP 4, iP 1, iP 4, iP 4, iP 1]),
    (7, .cells true 0 [iP 1, iP 1, iP 1])],
   [],
   .tuple ⟨[iP 2, iP 0]⟩⟩
theorem pb351_ok : pb351.okS EE.G = true := by kernel_rfl
theorem pb351_run : evT EE paT 1000000000 (.call pb351.f pb351.args) pb351.heap (keptK pb351) = some (.bool true) := by kernel_rfl
theorem pb351_h : pb351.holds EE := ent_run envOk paT_holds _ _ pb351_ok pb351_run
-- decani/office.Kept, 9619 steps
noncomputable def pb372 : Ent :=
  ⟨11, [.agg ⟨[iP 6, iP 0, .slice (some ⟨6, 0, none⟩) 1 18446744073709551616, .slice (some ⟨7, 0, none⟩) 1 1, .bool false, .slice none 0 0, .bool false, .slice none 0 0]⟩, iP 0, iP 0], 8,
   gB ++ [(6, .cells true 4 [iP 4, iP 4, iP 1]),
    (7, .cells true 0 [iP 1, iP 1, iP 1])],
   [],
   .tuple ⟨[iP 2, iP 0]⟩⟩
theorem pb372_ok : pb372.okS EE.G = true := by kernel_rfl
theorem pb372_run : evT EE paT 1000000000 (.call pb372.f pb372.args) pb372.heap (keptK pb372) = some (.bool true) := by kernel_rfl
theorem pb372_h : pb372.holds EE := ent_run envOk paT_holds _ _ pb372_ok pb372_run
-- decani/office.Kept, 12380 steps
noncomputable def pb393 : Ent :=
  ⟨11, [.agg ⟨[iP 6, iP 0, .slice (some ⟨6, 0, none⟩) 2 18446744073709551616, .slice (some ⟨7, 0, none⟩) 1 1, .bool false, .slice none 0 0, .bool false, .slice none 0 0]⟩, iP 0, iP 1], 8,
   gB ++ [(6, .cells true 4 [iP 2, iP 2, iP 1, iP 2, iP 2, iP 1]),
    (7, .cells true 0 [iP 1, iP 1, iP 1])],
   [],
   .tuple ⟨[iP 2, iP 0]⟩⟩
theorem pb393_ok : pb393.okS EE.G = true := by kernel_rfl
theorem pb393_run : evT EE paT 1000000000 (.call pb393.f pb393.args) pb393.heap (keptK pb393) = some (.bool true) := by kernel_rfl
theorem pb393_h : pb393.holds EE := ent_run envOk paT_holds _ _ pb393_ok pb393_run
-- decani/office.Chief, 15685 steps
noncomputable def pb414 : Ent :=
  ⟨14, [.agg ⟨[iP 6, iP 0, .slice (some ⟨6, 0, none⟩) 3 18446744073709551616, .slice (some ⟨7, 0, none⟩) 1 1, .bool false, .slice none 0 0, .bool false, .slice none 0 0]⟩, iP 0, iP 0], 8,
   gB ++ [(6, .cells true 4 [iP 0, iP 0, iP 1, iP 0, iP 0, iP 1, iP 0, iP 0, iP 1]),
    (7, .cells true 0 [iP 1, iP 1, iP 1])],
   [.cells true 2 [iP 0]],
   .tuple ⟨[.slice (some ⟨8, 0, none⟩) 1 18446744073709551616, iP 0]⟩⟩
theorem pb414_ok : pb414.okS EE.G = true := by kernel_rfl
theorem pb414_run : evT EE paT 1000000000 (.call pb414.f pb414.args) pb414.heap (keptK pb414) = some (.bool true) := by kernel_rfl
theorem pb414_h : pb414.holds EE := ent_run envOk paT_holds _ _ pb414_ok pb414_run
-- decani/office.Chief, 15685 steps
noncomputable def pb435 : Ent :=
  ⟨14, [.agg ⟨[iP 6, iP 0, .slice (some ⟨6, 0, none⟩) 3 18446744073709551616, .slice (some ⟨7, 0, none⟩) 1 1, .bool false, .slice none 0 0, .bool false, .slice none 0 0]⟩, iP 0, iP 3], 8,
   gB ++ [(6, .cells true 4 [iP 2, iP 2, iP 1, iP 2, iP 2, iP 1, iP 2, iP 2, iP 1]),
    (7, .cells true 0 [iP 1, iP 1, iP 1])],
   [.cells true 2 [iP 1]],
   .tuple ⟨[.slice (some ⟨8, 0, none⟩) 1 18446744073709551616, iP 0]⟩⟩
theorem pb435_ok : pb435.okS EE.G = true := by kernel_rfl
theorem pb435_run : evT EE paT 1000000000 (.call pb435.f pb435.args) pb435.heap (keptK pb435) = some (.bool true) := by kernel_rfl
theorem pb435_h : pb435.holds EE := ent_run envOk paT_holds _ _ pb435_ok pb435_run
-- decani/office.Falls, 15204 steps
noncomputable def pb456 : Ent :=
  ⟨9, [.agg ⟨[iP 6, iP 0, .slice (some ⟨6, 0, none⟩) 3 18446744073709551616, .slice (some ⟨7, 0, none⟩) 1 1, .bool false, .slice none 0 0, .bool false, .slice none 0 0]⟩, iP 0, iP 0], 8,
   gB ++ [(6, .cells true 4 [iP 5, iP 5, iP 1, iP 5, iP 5, iP 1, iP 5, iP 5, iP 1]),
    (7, .cells true 0 [iP 1, iP 1, iP 1])],
   [],
   .tuple ⟨[.agg ⟨[iP 5, iP 5]⟩, iP 0]⟩⟩
theorem pb456_ok : pb456.okS EE.G = true := by kernel_rfl
theorem pb456_run : evT EE paT 1000000000 (.call pb456.f pb456.args) pb456.heap (keptK pb456) = some (.bool true) := by kernel_rfl
theorem pb456_h : pb456.holds EE := ent_run envOk paT_holds _ _ pb456_ok pb456_run
-- decani/office.Chief, 19661 steps
noncomputable def pb477 : Ent :=
  ⟨14, [.agg ⟨[iP 6, iP 0, .slice (some ⟨6, 0, none⟩) 4 18446744073709551616, .slice (some ⟨7, 0, none⟩) 1 1, .bool false, .slice none 0 0, .bool false, .slice none 0 0]⟩, iP 0, iP 1], 8,
   gB ++ [(6, .cells true 4 [iP 1, iP 1, iP 1, iP 1, iP 1, iP 1, iP 1, iP 1, iP 1, iP 1, iP 1, iP 1]),
    (7, .cells true 0 [iP 1, iP 1, iP 1])],
   [.cells true 2 [iP 0]],
   .tuple ⟨[.slice (some ⟨8, 0, none⟩) 1 18446744073709551616, iP 0]⟩⟩
theorem pb477_ok : pb477.okS EE.G = true := by kernel_rfl
theorem pb477_run : evT EE paT 1000000000 (.call pb477.f pb477.args) pb477.heap (keptK pb477) = some (.bool true) := by kernel_rfl
theorem pb477_h : pb477.holds EE := ent_run envOk paT_holds _ _ pb477_ok pb477_run
-- decani/office.Chief, 19661 steps
noncomputable def pb498 : Ent :=
  ⟨14, [.agg ⟨[iP 6, iP 0, .slice (some ⟨6, 0, none⟩) 4 18446744073709551616, .slice (some ⟨7, 0, none⟩) 1 1, .bool false, .slice none 0 0, .bool false, .slice none 0 0]⟩, iP 0, iP 5], 8,
   gB ++ [(6, .cells true 4 [iP 2, iP 2, iP 1, iP 2, iP 2, iP 1, iP 2, iP 2, iP 1, iP 2, iP 2, iP 1]),
    (7, .cells true 0 [iP 1, iP 1, iP 1])],
   [.cells true 2 [iP 3]],
   .tuple ⟨[.slice (some ⟨8, 0, none⟩) 1 18446744073709551616, iP 0]⟩⟩
theorem pb498_ok : pb498.okS EE.G = true := by kernel_rfl
theorem pb498_run : evT EE paT 1000000000 (.call pb498.f pb498.args) pb498.heap (keptK pb498) = some (.bool true) := by kernel_rfl
theorem pb498_h : pb498.holds EE := ent_run envOk paT_holds _ _ pb498_ok pb498_run
-- decani/office.Kept, 19100 steps
noncomputable def pb519 : Ent :=
  ⟨11, [.agg ⟨[iP 6, iP 0, .slice (some ⟨6, 0, none⟩) 4 18446744073709551616, .slice (some ⟨7, 0, none⟩) 1 1, .bool false, .slice none 0 0, .bool false, .slice none 0 0]⟩, iP 0, iP 3], 8,
   gB ++ [(6, .cells true 4 [iP 4, iP 4, iP 1, iP 4, iP 4, iP 1, iP 4, iP 4, iP 1, iP 4, iP 4, iP 1]),
    (7, .cells true 0 [iP 1, iP 1, iP 1])],
   [],
   .tuple ⟨[iP 0, iP 0]⟩⟩
theorem pb519_ok : pb519.okS EE.G = true := by kernel_rfl
theorem pb519_run : evT EE paT 1000000000 (.call pb519.f pb519.args) pb519.heap (keptK pb519) = some (.bool true) := by kernel_rfl
theorem pb519_h : pb519.holds EE := ent_run envOk paT_holds _ _ pb519_ok pb519_run
-- decani/office.Kept, 6769 steps
noncomputable def pb540 : Ent :=
  ⟨11, [.agg ⟨[iP 1, iP 0, .slice (some ⟨6, 0, none⟩) 3 18446744073709551616, .slice (some ⟨7, 0, none⟩) 1 1, .bool false, .slice none 0 0, .bool false, .slice none 0 0]⟩, iP 0, iP 2], 8,
   gB ++ [(6, .cells true 4 [iP 0, iP 0, iP 1, iP 0, iP 0, iP 1, iP 0, iP 0, iP 1]),
    (7, .cells true 0 [iP 1, iP 1, iP 1])],
   [],
   .tuple ⟨[iP 0, iP 0]⟩⟩
theorem pb540_ok : pb540.okS EE.G = true := by kernel_rfl
theorem pb540_run : evT EE paT 1000000000 (.call pb540.f pb540.args) pb540.heap (keptK pb540) = some (.bool true) := by kernel_rfl
theorem pb540_h : pb540.holds EE := ent_run envOk paT_holds _ _ pb540_ok pb540_run
-- decani/office.Kept, 6462 steps
noncomputable def pb552 : Ent :=
  ⟨11, [.agg ⟨[iP 2, iP 0, .slice (some ⟨6, 0, none⟩) 2 18446744073709551616, .slice (some ⟨7, 0, none⟩) 1 1, .bool false, .slice none 0 0, .bool false, .slice none 0 0]⟩, iP 0, iP 0], 8,
   gB ++ [(6, .cells true 4 [iP 1, iP 1, iP 1, iP 1, iP 1, iP 1]),
    (7, .cells true 0 [iP 1, iP 1, iP 1])],
   [],
   .tuple ⟨[iP 2, iP 0]⟩⟩
theorem pb552_ok : pb552.okS EE.G = true := by kernel_rfl
theorem pb552_run : evT EE paT 1000000000 (.call pb552.f pb552.args) pb552.heap (keptK pb552) = some (.bool true) := by kernel_rfl
theorem pb552_h : pb552.holds EE := ent_run envOk paT_holds _ _ pb552_ok pb552_run
end Go.Proofs.YtmjpnohpmfmdlaaGreatDoor
