/- Known calls, part 4: what single calls hand back, at small heaps, by the kernel's own run of the evaluator. No conditions. -/
import Derived.Test.YtmjpnohpmfmdlaaGreatDoorPAT
set_option linter.all false
namespace Go.Proofs.YtmjpnohpmfmdlaaGreatDoor
open Go.Ai
set_option maxRecDepth 1000000
-- decani/office.Kept, 8547 steps
noncomputable def pb4 : Ent :=
  ⟨11, [.agg ⟨[iP 1, iP 0, .slice (some ⟨6, 0, none⟩) 4 18446744073709551616, .slice (some ⟨7, 0, none⟩) 1 1, .bool false, .slice none 0 0, .bool false, .slice none 0 0]⟩, iP 0, iP 0], 8,
   gB ++ [(6, .cells true 4 [iP 0, iP 0, iP 1, iP 0, iP 0, iP 1, iP 0, iP 0, iP 1, iP 0, iP 0, iP 1]),
    (7, .cells true 0 [iP 1, iP 1, iP 1])],
   [],
   .tuple ⟨[iP 2, iP 0]⟩⟩
theorem pb4_ok : pb4.okS EE.G = true := by kernel_rfl
theorem pb4_run : evT EE paT 1000000000 (.call pb4.f pb4.args) pb4.heap (keptK pb4) = some (.bool true) := by kernel_rfl
theorem pb4_h : pb4.holds EE := ent_run envOk paT_holds _ _ pb4_ok pb4_run
-- decani/office.Falls, 8449 steps
noncomputable def pb25 : Ent :=
  ⟨9, [.agg ⟨[iP 2, iP 0, .slice (some ⟨6, 0, none⟩) 3 18446744073709551616, .slice (some ⟨7, 0, none⟩) 1 1, .bool false, .slice none 0 0, .bool false, .slice none 0 0]⟩, iP 0, iP 2], 8,
   gB ++ [(6, .cells true 4 [iP 1, iP 1, iP 1, iP 1, iP 1, iP 1, iP 1, iP 1, iP 1]),
    (7, .cells true 0 [iP 1, iP 1, iP 1])],
   [],
   .tuple ⟨[.agg ⟨[iP 0, iP 0]⟩, iP 4]⟩⟩
theorem pb25_ok : pb25.okS EE.G = true := by kernel_rfl
theorem pb25_run : evT EE paT 1000000000 (.call pb25.f pb25.args) pb25.heap (keptK pb25) = some (.bool true) := by kernel_rfl
theorem pb25_h : pb25.holds EE := ent_run envOk paT_holds _ _ pb25_ok pb25_run
-- decani/office.Falls, 8017 steps
noncomputable def pb46 : Ent :=
  ⟨9, [.agg ⟨[iP 3, iP 0, .slice (some ⟨6, 0, none⟩) 2 18446744073709551616, .slice (some ⟨7, 0, none⟩) 1 1, .bool false, .slice none 0 0, .bool false, .slice none 0 0]⟩, iP 0, iP 0], 8,
   gB ++ [(6, .cells true 4 [iP 0, iP 0, iP 1, iP 0, iP 0, iP 1]),
    (7, .cells true 0 [iP 1, iP 1, iP 1])],
   [],
   .tuple ⟨[.agg ⟨[iP 0, iP 0]⟩, iP 0]⟩⟩
theorem pb46_ok : pb46.okS EE.G = true := by kernel_rfl
theorem pb46_run : evT EE paT 1000000000 (.call pb46.f pb46.args) pb46.heap (keptK pb46) = some (.bool true) := by kernel_rfl
theorem pb46_h : pb46.holds EE := ent_run envOk paT_holds _ _ pb46_ok pb46_run
-- decani/office.Kept, 10812 steps
noncomputable def pb67 : Ent :=
  ⟨11, [.agg ⟨[iP 3, iP 0, .slice (some ⟨6, 0, none⟩) 3 18446744073709551616, .slice (some ⟨7, 0, none⟩) 1 1, .bool false, .slice none 0 0, .bool false, .slice none 0 0]⟩, iP 0, iP 1], 8,
   gB ++ [(6, .cells true 4 [iP 0, iP 0, iP 1, iP 0, iP 0, iP 1, iP 0, iP 0, iP 1]),
    (7, .cells true 0 [iP 1, iP 1, iP 1])],
   [],
   .tuple ⟨[iP 2, iP 0]⟩⟩
theorem pb67_ok : pb67.okS EE.G = true := by kernel_rfl
theorem pb67_run : evT EE paT 1000000000 (.call pb67.f pb67.args) pb67.heap (keptK pb67) = some (.bool true) := by kernel_rfl
theorem pb67_h : pb67.holds EE := ent_run envOk paT_holds _ _ pb67_ok pb67_run
-- decani/office.Kept, 14085 steps
noncomputable def pb88 : Ent :=
  ⟨11, [.agg ⟨[iP 3, iP 0, .slice (some ⟨6, 0, none⟩) 4 18446744073709551616, .slice (some ⟨7, 0, none⟩) 1 1, .bool false, .slice none 0 0, .bool false, .slice none 0 0]⟩, iP 0, iP 0], 8,
   gB ++ [(6, .cells true 4 [iP 0, iP 0, iP 1, iP 0, iP 0, iP 1, iP 0, iP 0, iP 1, iP 0, iP 0, iP 1]),
    (7, .cells true 0 [iP 1, iP 1, iP 1])],
   [],
   .tuple ⟨[iP 2, iP 0]⟩⟩
theorem pb88_ok : pb88.okS EE.G = true := by kernel_rfl
theorem pb88_run : evT EE paT 1000000000 (.call pb88.f pb88.args) pb88.heap (keptK pb88) = some (.bool true) := by kernel_rfl
theorem pb88_h : pb88.holds EE := ent_run envOk paT_holds _ _ pb88_ok pb88_run
-- decani/office.Kept, 12265 steps
noncomputable def pb109 : Ent :=
  ⟨11, [.agg ⟨[iP 3, iP 0, .slice (some ⟨6, 0, none⟩) 4 18446744073709551616, .slice (some ⟨7, 0, none⟩) 1 1, .bool false, .slice none 0 0, .bool false, .slice none 0 0]⟩, iP 0, iP 0], 8,
   gB ++ [(6, .cells true 4 [iP 2, iP 2, iP 1, iP 2, iP 2, iP 1, iP 2, iP 2, iP 1, iP 2, iP 2, iP 1]),
    (7, .cells true 0 [iP 1, iP 1, iP 1])],
   [],
   .tuple ⟨[iP 2, iP 0]⟩⟩
theorem pb109_ok : pb109.okS EE.G = true := by kernel_rfl
theorem pb109_run : evT EE paT 1000000000 (.call pb109.f pb109.args) pb109.heap (keptK pb109) = some (.bool true) := by kernel_rfl
theorem pb109_h : pb109.holds EE := ent_run envOk paT_holds _ _ pb109_ok pb109_run
-- decani/office.Kept, 9414 steps
noncomputable def pb130 : Ent :=
  ⟨11, [.agg ⟨[iP 4, iP 0, .slice (some ⟨6, 0, none⟩) 2 18446744073709551616, .slice (some ⟨7, 0, none⟩) 1 1, .bool false, .slice none 0 0, .bool false, .slice none 0 0]⟩, iP 0, iP 0], 8,
   gB ++ [(6, .cells true 4 [iP 1, iP 1, iP 1, iP 1, iP 1, iP 1]),
    (7, .cells true 0 [iP 1, iP 1, iP 1])],
   [],
   .tuple ⟨[iP 2, iP 0]⟩⟩
theorem pb130_ok : pb130.okS EE.G = true := by kernel_rfl
theorem pb130_run : evT EE paT 1000000000 (.call pb130.f pb130.args) pb130.heap (keptK pb130) = some (.bool true) := by kernel_rfl
theorem pb130_h : pb130.holds EE := ent_run envOk paT_holds _ _ pb130_ok pb130_run
-- decani/office.Chief, 12445 steps
noncomputable def pb151 : Ent :=
  ⟨14, [.agg ⟨[iP 4, iP 0, .slice (some ⟨6, 0, none⟩) 3 18446744073709551616, .slice (some ⟨7, 0, none⟩) 1 1, .bool false, .slice none 0 0, .bool false, .slice none 0 0]⟩, iP 0, iP 1], 8,
   gB ++ [(6, .cells true 4 [iP 0, iP 0, iP 1, iP 0, iP 0, iP 1, iP 0, iP 0, iP 1]),
    (7, .cells true 0 [iP 1, iP 1, iP 1])],
   [.cells true 2 [iP 1]],
   .tuple ⟨[.slice (some ⟨8, 0, none⟩) 1 18446744073709551616, iP 0]⟩⟩
theorem pb151_ok : pb151.okS EE.G = true := by kernel_rfl
theorem pb151_run : evT EE paT 1000000000 (.call pb151.f pb151.args) pb151.heap (keptK pb151) = some (.bool true) := by kernel_rfl
theorem pb151_h : pb151.holds EE := ent_run envOk paT_holds _ _ pb151_ok pb151_run
-- decani/office.Falls, 11862 steps
noncomputable def pb172 : Ent :=
  ⟨9, [.agg ⟨[iP 4, iP 0, .slice (some ⟨6, 0, none⟩) 3 18446744073709551616, .slice (some ⟨7, 0, none⟩) 1 1, .bool false, .slice none 0 0, .bool false, .slice none 0 0]⟩, iP 0, iP 0], 8,
   gB ++ [(6, .cells true 4 [iP 3, iP 3, iP 1, iP 3, iP 3, iP 1, iP 3, iP 3, iP 1]),
    (7, .cells true 0 [iP 1, iP 1, iP 1])],
   [],
   .tuple ⟨[.agg ⟨[iP 3, iP 3]⟩, iP 0]⟩⟩
theorem pb172_ok : pb172.okS EE.G = true := by kernel_rfl
theorem pb172_run : evT EE paT 1000000000 (.call pb172.f pb172.args) pb172.heap (keptK pb172) = some (.bool true) := by kernel_rfl
theorem pb172_h : pb172.holds EE := ent_run envOk paT_holds _ _ pb172_ok pb172_run
-- decani/office.Chief, 15957 steps
noncomputable def pb193 : Ent :=
  ⟨14, [.agg ⟨[iP 4, iP 0, .slice (some ⟨6, 0, none⟩) 4 18446744073709551616, .slice (some ⟨7, 0, none⟩) 1 1, .bool false, .slice none 0 0, .bool false, .slice none 0 0]⟩, iP 0, iP 1], 8,
   gB ++ [(6, .cells true 4 [iP 1, iP 1, iP 1, iP 1, iP 1, iP 1, iP 1, iP 1, iP 1, iP 1, iP 1, iP 1]),
    (7, .cells true 0 [iP 1, iP 1, iP 1])],
   [.cells true 2 [iP 0]],
   .tuple ⟨[.slice (some ⟨8, 0, none⟩) 1 18446744073709551616, iP 0]⟩⟩
theorem pb193_ok : pb193.okS EE.G = true := by kernel_rfl
theorem pb193_run : evT EE paT 1000000000 (.call pb193.f pb193.args) pb193.heap (keptK pb193) = some (.bool true) := by kernel_rfl
theorem pb193_h : pb193.holds EE := ent_run envOk paT_holds _ _ pb193_ok pb193_run
-- decani/office.Chief, 14035 steps
noncomputable def pb214 : Ent :=
  ⟨14, [.agg ⟨[iP 4, iP 0, .slice (some ⟨6, 0, none⟩) 4 18446744073709551616, .slice (some ⟨7, 0, none⟩) 1 1, .bool false, .slice none 0 0, .bool false, .slice none 0 0]⟩, iP 0, iP 3], 8,
   gB ++ [(6, .cells true 4 [iP 3, iP 3, iP 1, iP 3, iP 3, iP 1, iP 3, iP 3, iP 1, iP 3, iP 3, iP 1]),
    (7, .cells true 0 [iP 1, iP 1, iP 1])],
   [.cells true 2 [iP 0]],
   .tuple ⟨[.slice (some ⟨8, 0, none⟩) 1 18446744073709551616, iP 0]⟩⟩
theorem pb214_ok : pb214.okS EE.G = true := by kernel_rfl
theorem pb214_run : evT EE paT 1000000000 (.call pb214.f pb214.args) pb214.heap (keptK pb214) = some (.bool true) := by kernel_rfl
theorem pb214_h : pb214.holds EE := ent_run envOk paT_holds _ _ pb214_ok pb214_run
-- decani/office.Chief, 8235 steps
noncomputable def pb235 : Ent :=
  ⟨14, [.agg ⟨[iP 5, iP 0, .slice (some ⟨6, 0, none⟩) 1 18446744073709551616, .slice (some ⟨7, 0, none⟩) 1 1, .bool false, .slice none 0 0, .bool false, .slice none 0 0]⟩, iP 0, iP 4], 8,
   gB ++ [(6, .cells true 4 [iP 4, iP 4, iP 1]),
    (7, .cells true 0 [iP 1, iP 1, iP 1])],
   [.cells true 2 [iP 0]],
   .tuple ⟨[.slice (some ⟨8, 0, none⟩) 1 18446744073709551616, iP 0]⟩⟩
theorem pb235_ok : pb235.okS EE.G = true := by kernel_rfl
theorem pb235_run : evT EE paT 1000000000 (.call pb235.f pb235.args) pb235.heap (keptK pb235) = some (.bool true) := by kernel_rfl
theorem pb235_h : pb235.holds EE := ent_run envOk paT_holds _ _ pb235_ok pb235_run
-- decani/office.Chief, 10859 steps
noncomputable def pb256 : Ent :=
  ⟨14, [.agg ⟨[iP 5, iP 0, .slice (some ⟨6, 0, none⟩) 2 18446744073709551616, .slice (some ⟨7, 0, none⟩) 1 1, .bool false, .slice none 0 0, .bool false, .slice none 0 0]⟩, iP 0, iP 3], 8,
   gB ++ [(6, .cells true 4 [iP 3, iP 3, iP 1, iP 3, iP 3, iP 1]),
    (7, .cells true 0 [iP 1, iP 1, iP 1])],
   [.cells true 2 [iP 0]],
   .tuple ⟨[.slice (some ⟨8, 0, none⟩) 1 18446744073709551616, iP 0]⟩⟩
theorem pb256_ok : pb256.okS EE.G = true := by kernel_rfl
theorem pb256_run : evT EE paT 1000000000 (.call pb256.f pb256.args) pb256.heap (keptK pb256) = some (.bool true) := by kernel_rfl
theorem pb256_h : pb256.holds EE := ent_run envOk paT_holds _ _ pb256_ok pb256_run
-- decani/office.Falls, 14189 steps
noncomputable def pb277 : Ent :=
  ⟨9, [.agg ⟨[iP 5, iP 0, .slice (some ⟨6, 0, none⟩) 3 18446744073709551616, .slice (some ⟨7, 0, none⟩) 1 1, .bool false, .slice none 0 0, .bool false, .slice none 0 0]⟩, iP 0, iP 1], 8,
   gB ++ [(6, .cells true 4 [iP 1, iP 1, iP 1, iP 1, iP 1, iP 1, iP 1, iP 1, iP 1]),
    (7, .cells true 0 [iP 1, iP 1, iP 1])],
   [],
   .tuple ⟨[.agg ⟨[iP 2, iP 2]⟩, iP 0]⟩⟩
theorem pb277_ok : pb277.okS EE.G = true := by kernel_rfl
theorem pb277_run : evT EE paT 1000000000 (.call pb277.f pb277.args) pb277.heap (keptK pb277) = some (.bool true) := by kernel_rfl
theorem pb277_h : pb277.holds EE := ent_run envOk paT_holds _ _ pb277_ok pb277_run
-- decani/office.Falls, 13533 steps
noncomputable def pb298 : Ent :=
  ⟨9, [.agg ⟨[iP 5, iP 0, .slice (some ⟨6, 0, none⟩) 3 18446744073709551616, .slice (some ⟨7, 0, none⟩) 1 1, .bool false, .slice none 0 0, .bool false, .slice none 0 0]⟩, iP 0, iP 0], 8,
   gB ++ [(6, .cells true 4 [iP 4, iP 4, iP 1, iP 4, iP 4, iP 1, iP 4, iP 4, iP 1]),
    (7, .cells true 0 [iP 1, iP 1, iP 1])],
   [],
   .tuple ⟨[.agg ⟨[iP 4, iP 4]⟩, iP 0]⟩⟩
theorem pb298_ok : pb298.okS EE.G = true := by kernel_rfl
theorem pb298_run : evT EE paT 1000000000 (.call pb298.f pb298.args) pb298.heap (keptK pb298) = some (.bool true) := by kernel_rfl
theorem pb298_h : pb298.holds EE := ent_run envOk paT_holds _ _ pb298_ok pb298_run
-- decani/office.Chief, 17853 steps
noncomputable def pb319 : Ent :=
  ⟨14, [.agg ⟨[iP 5, iP 0, .slice (some ⟨6, 0, none⟩) 4 18446744073709551616, .slice (some ⟨7, 0, none⟩) 1 1, .bool false, .slice none 0 0, .bool false, .slice none 0 0]⟩, iP 0, iP 1], 8,
   gB ++ [(6, .cells true 4 [iP 1, iP 1, iP 1, iP 1, iP 1, iP 1, iP 1, iP 1, iP 1, iP 1, iP 1, iP 1]),
    (7, .cells true 0 [iP 1, iP 1, iP 1])],
   [.cells true 2 [iP 0]],
   .tuple ⟨[.slice (some ⟨8, 0, none⟩) 1 18446744073709551616, iP 0]⟩⟩
theorem pb319_ok : pb319.okS EE.G = true := by kernel_rfl
theorem pb319_run : evT EE paT 1000000000 (.call pb319.f pb319.args) pb319.heap (keptK pb319) = some (.bool true) := by kernel_rfl
theorem pb319_h : pb319.holds EE := ent_run envOk paT_holds _ _ pb319_ok pb319_run
-- decani/office.Falls, 17270 steps
noncomputable def pb340 : Ent :=
  ⟨9, [.agg ⟨[iP 5, iP 0, .slice (some ⟨6, 0, none⟩) 4 18446744073709551616, .slice (some ⟨7, 0, none⟩) 1 1, .bool false, .slice none 0 0, .bool false, .slice none 0 0]⟩, iP 0, iP 0], 8,
   gB ++ [(6, .cells true 4 [iP 3, iP 3, iP 1, iP 3, iP 3, iP 1, iP 3, iP 3, iP 1, iP 3, iP 3, iP 1]),
    (7, .cells true 0 [iP 1, iP 1, iP 1])],
   [],
   .tuple ⟨[.agg ⟨[iP 3, iP 3]⟩, iP 0]⟩⟩
theorem pb340_ok : pb340.okS EE.G = true := by kernel_rfl
theorem pb340_run : evT EE paT 1000000000 (.call pb340.f pb340.args) pb340.heap (keptK pb340) = some (.bool true) := by kernel_rfl
theorem pb340_h : pb340.holds EE := ent_run envOk paT_holds _ _ pb340_ok pb340_run
-- decani/office.Chief, 9479 steps
noncomputable def pb361 : Ent :=
  ⟨14, [.agg ⟨[iP 6, iP 0, .slice (some ⟨6, 0, none⟩) 1 18446744073709551616, .slice (some ⟨7, 0, none⟩) 1 1, .bool false, .slice none 0 0, .bool false, .slice none 0 0]⟩, iP 0, iP 0], 8,
   gB ++ [(6, .cells true 4 [iP 0, iP 0, iP 1]),
    (7, .cells true 0 [iP 1, iP 1, iP 1])],
   [.cells true 2 [iP 0]],
   .tuple ⟨[.slice (some ⟨8, 0, none⟩) 1 18446744073709551616, iP 0]⟩⟩
theorem pb361_ok : pb361.okS EE.G = true := by kernel_rfl
theorem pb361_run : evT EE paT 1000000000 (.call pb361.f pb361.args) pb361.heap (keptK pb361) = some (.bool true) := by kernel_rfl
theorem pb361_h : pb361.holds EE := ent_run envOk paT_holds _ _ pb361_ok pb361_run
-- decani/office.Chief, 12291 steps
noncomputable def pb382 : Ent :=
  ⟨14, [.agg ⟨[iP 6, iP 0, .slice (some ⟨6, 0, none⟩) 2 18446744073709551616, .slice (some ⟨7, 0, none⟩) 1 1, .bool false, .slice none 0 0, .bool false, .slice none 0 0]⟩, iP 0, iP 1], 8,
   gB ++ [(6, .cells true 4 [iP 0, iP 0, iP 1, iP 0, iP 0, iP 1]),
    (7, .cells true 0 [iP 1, iP 1, iP 1])],
   [.cells true 2 [iP 1]],
   .tuple ⟨[.slice (some ⟨8, 0, none⟩) 1 18446744073709551616, iP 0]⟩⟩
theorem pb382_ok : pb382.okS EE.G = true := by kernel_rfl
theorem pb382_run : evT EE paT 1000000000 (.call pb382.f pb382.args) pb382.heap (keptK pb382) = some (.bool true) := by kernel_rfl
theorem pb382_h : pb382.holds EE := ent_run envOk paT_holds _ _ pb382_ok pb382_run
-- decani/office.Chief, 12291 steps
noncomputable def pb403 : Ent :=
  ⟨14, [.agg ⟨[iP 6, iP 0, .slice (some ⟨6, 0, none⟩) 2 18446744073709551616, .slice (some ⟨7, 0, none⟩) 1 1, .bool false, .slice none 0 0, .bool false, .slice none 0 0]⟩, iP 0, iP 4], 8,
   gB ++ [(6, .cells true 4 [iP 4, iP 4, iP 1, iP 4, iP 4, iP 1]),
    (7, .cells true 0 [iP 1, iP 1, iP 1])],
   [.cells true 2 [iP 0]],
   .tuple ⟨[.slice (some ⟨8, 0, none⟩) 1 18446744073709551616, iP 0]⟩⟩
theorem pb403_ok : pb403.okS EE.G = true := by kernel_rfl
theorem pb403_run : evT EE paT 1000000000 (.call pb403.f pb403.args) pb403.heap (keptK pb403) = some (.bool true) := by kernel_rfl
theorem pb403_h : pb403.holds EE := ent_run envOk paT_holds _ _ pb403_ok pb403_run
-- decani/office.Falls, 15809 steps
noncomputable def pb424 : Ent :=
  ⟨9, [.agg ⟨[iP 6, iP 0, .slice (some ⟨6, 0, none⟩) 3 18446744073709551616, .slice (some ⟨7, 0, none⟩) 1 1, .bool false, .slice none 0 0, .bool false, .slice none 0 0]⟩, iP 0, iP 1], 8,
   gB ++ [(6, .cells true 4 [iP 1, iP 1, iP 1, iP 1, iP 1, iP 1, iP 1, iP 1, iP 1]),
    (7, .cells true 0 [iP 1, iP 1, iP 1])],
   [],
   .tuple ⟨[.agg ⟨[iP 2, iP 2]⟩, iP 0]⟩⟩
theorem pb424_ok : pb424.okS EE.G = true := by kernel_rfl
theorem pb424_run : evT EE paT 1000000000 (.call pb424.f pb424.args) pb424.heap (keptK pb424) = some (.bool true) := by kernel_rfl
theorem pb424_h : pb424.holds EE := ent_run envOk paT_holds _ _ pb424_ok pb424_run
-- decani/office.Falls, 15962 steps
noncomputable def pb445 : Ent :=
  ⟨9, [.agg ⟨[iP 6, iP 0, .slice (some ⟨6, 0, none⟩) 3 18446744073709551616, .slice (some ⟨7, 0, none⟩) 1 1, .bool false, .slice none 0 0, .bool false, .slice none 0 0]⟩, iP 0, iP 2], 8,
   gB ++ [(6, .cells true 4 [iP 3, iP 3, iP 1, iP 3, iP 3, iP 1, iP 3, iP 3, iP 1]),
    (7, .cells true 0 [iP 1, iP 1, iP 1])],
   [],
   .tuple ⟨[.agg ⟨[iP 5, iP 5]⟩, iP 0]⟩⟩
theorem pb445_ok : pb445.okS EE.G = true := by kernel_rfl
theorem pb445_run : evT EE paT 1000000000 (.call pb445.f pb445.args) pb445.heap (keptK pb445) = some (.bool true) := by kernel_rfl
theorem pb445_h : pb445.holds EE := ent_run envOk paT_holds _ _ pb445_ok pb445_run
-- decani/office.Falls, 19734 steps
noncomputable def pb466 : Ent :=
  ⟨9, [.agg ⟨[iP 6, iP 0, .slice (some ⟨6, 0, none⟩) 4 18446744073709551616, .slice (some ⟨7, 0, none⟩) 1 1, .bool false, .slice none 0 0, .bool false, .slice none 0 0]⟩, iP 0, iP 1], 8,
   gB ++ [(6, .cells true 4 [iP 0, iP 0, iP 1, iP 0, iP 0, iP 1, iP 0, iP 0, iP 1, iP 0, iP 0, iP 1]),
    (7, .cells true 0 [iP 1, iP 1, iP 1])],
   [],
   .tuple ⟨[.agg ⟨[iP 1, iP 1]⟩, iP 0]⟩⟩
theorem pb466_ok : pb466.okS EE.G = true := by kernel_rfl
theorem pb466_run : evT EE paT 1000000000 (.call pb466.f pb466.args) pb466.heap (keptK pb466) = some (.bool true) := by kernel_rfl
theorem pb466_h : pb466.holds EE := ent_run envOk paT_holds _ _ pb466_ok pb466_run
-- decani/office.Falls, 19785 steps
noncomputable def pb487 : Ent :=
  ⟨9, [.agg ⟨[iP 6, iP 0, .slice (some ⟨6, 0, none⟩) 4 18446744073709551616, .slice (some ⟨7, 0, none⟩) 1 1, .bool false, .slice none 0 0, .bool false, .slice none 0 0]⟩, iP 0, iP 0], 8,
   gB ++ [(6, .cells true 4 [iP 2, iP 2, iP 1, iP 2, iP 2, iP 1, iP 2, iP 2, iP 1, iP 2, iP 2, iP 1]),
    (7, .cells true 0 [iP 1, iP 1, iP 1])],
   [],
   .tuple ⟨[.agg ⟨[iP 2, iP 2]⟩, iP 0]⟩⟩
theorem pb487_ok : pb487.okS EE.G = true := by kernel_rfl
theorem pb487_run : evT EE paT 1000000000 (.call pb487.f pb487.args) pb487.heap (keptK pb487) = some (.bool true) := by kernel_rfl
theorem pb487_h : pb487.holds EE := ent_run envOk paT_holds _ _ pb487_ok pb487_run
-- decani/office.Falls, 19779 steps
noncomputable def pb508 : Ent :=
  ⟨9, [.agg ⟨[iP 6, iP 0, .slice (some ⟨6, 0, none⟩) 4 18446744073709551616, .slice (some ⟨7, 0, none⟩) 1 1, .bool false, .slice none 0 0, .bool false, .slice none 0 0]⟩, iP 0, iP 3], 8,
   gB ++ [(6, .cells true 4 [iP 3, iP 3, iP 1, iP 3, iP 3, iP 1, iP 3, iP 3, iP 1, iP 3, iP 3, iP 1]),
    (7, .cells true 0 [iP 1, iP 1, iP 1])],
   [],
   .tuple ⟨[.agg ⟨[iP 0, iP 0]⟩, iP 4]⟩⟩
theorem pb508_ok : pb508.okS EE.G = true := by kernel_rfl
theorem pb508_run : evT EE paT 1000000000 (.call pb508.f pb508.args) pb508.heap (keptK pb508) = some (.bool true) := by kernel_rfl
theorem pb508_h : pb508.holds EE := ent_run envOk paT_holds _ _ pb508_ok pb508_run
-- decani/office.Chief, 6991 steps
noncomputable def pb529 : Ent :=
  ⟨14, [.agg ⟨[iP 4, iP 0, .slice (some ⟨6, 0, none⟩) 1 18446744073709551616, .slice (some ⟨7, 0, none⟩) 1 1, .bool false, .slice none 0 0, .bool false, .slice none 0 0]⟩, iP 0, iP 0], 8,
   gB ++ [(6, .cells true 4 [iP 0, iP 0, iP 1]),
    (7, .cells true 0 [iP 1, iP 1, iP 1])],
   [.cells true 2 [iP 0]],
   .tuple ⟨[.slice (some ⟨8, 0, none⟩) 1 18446744073709551616, iP 0]⟩⟩
theorem pb529_ok : pb529.okS EE.G = true := by kernel_rfl
theorem pb529_run : evT EE paT 1000000000 (.call pb529.f pb529.args) pb529.heap (keptK pb529) = some (.bool true) := by kernel_rfl
theorem pb529_h : pb529.holds EE := ent_run envOk paT_holds _ _ pb529_ok pb529_run
-- decani/office.Chief, 5747 steps
noncomputable def pb559 : Ent :=
  ⟨14, [.agg ⟨[iP 3, iP 0, .slice (some ⟨6, 0, none⟩) 1 18446744073709551616, .slice (some ⟨7, 0, none⟩) 1 1, .bool false, .slice none 0 0, .bool false, .slice none 0 0]⟩, iP 0, iP 2], 8,
   gB ++ [(6, .cells true 4 [iP 2, iP 2, iP 1]),
    (7, .cells true 0 [iP 1, iP 1, iP 1])],
   [.cells true 2 [iP 0]],
   .tuple ⟨[.slice (some ⟨8, 0, none⟩) 1 18446744073709551616, iP 0]⟩⟩
theorem pb559_ok : pb559.okS EE.G = true := by kernel_rfl
theorem pb559_run : evT EE paT 1000000000 (.call pb559.f pb559.args) pb559.heap (keptK pb559) = some (.bool true) := by kernel_rfl
theorem pb559_h : pb559.holds EE := ent_run envOk paT_holds _ _ pb559_ok pb559_run
end Go.Proofs.YtmjpnohpmfmdlaaGreatDoor
