/- Known calls, part 18: what single calls hand back, at small heaps, by the kernel's own run of the evaluator. No conditions. -/
import Derived.Test.YtmjpnohpmfmdlaaGreatDoorPAT
set_option linter.all false
namespace Go.Proofs.YtmjpnohpmfmdlaaGreatDoor
open Go.Ai
set_option maxRecDepth 1000000
-- decani/office.Falls, 9119 steps
noncomputable def pb18 : Ent :=
  ⟨9, [.agg ⟨[iP 2, iP 0, .slice (some ⟨6, 0, none⟩) 3 18446744073709551616, .slice (some ⟨7, 0, none⟩) 1 1, .bool false, .slice none 0 0, .bool false, .slice none 0 0]⟩, iP 0, iP 2], 8,
   gB ++ [(6, .cells true 4 [iP 0, iP 0, iP 1, iP 0, iP 0, iP 1, iP 0, iP 0, iP 1]),
    (7, .cells true 0 [iP 1, iP 1, iP 1])],
   [],
   .tuple ⟨[.agg ⟨[iP 0, iP 0]⟩, iP 4]⟩⟩
theorem pb18_ok : pb18.okS EE.G = true := by kernel_rfl
theorem pb18_run : evT EE paT 1000000000 (.call pb18.f pb18.args) pb18.heap (keptK pb18) = some (.bool true) := by kernel_rfl
theorem pb18_h : pb18.holds EE := ent_run envOk paT_holds _ _ pb18_ok pb18_run
-- decani/office.Chief, 10419 steps
noncomputable def pb39 : Ent :=
  ⟨14, [.agg ⟨[iP 2, iP 0, .slice (some ⟨6, 0, none⟩) 4 18446744073709551616, .slice (some ⟨7, 0, none⟩) 1 1, .bool false, .slice none 0 0, .bool false, .slice none 0 0]⟩, iP 0, iP 1], 8,
   gB ++ [(6, .cells true 4 [iP 1, iP 1, iP 1, iP 1, iP 1, iP 1, iP 1, iP 1, iP 1, iP 1, iP 1, iP 1]),
    (7, .cells true 0 [iP 1, iP 1, iP 1])],
   [.cells true 2 [iP 0]],
   .tuple ⟨[.slice (some ⟨8, 0, none⟩) 1 18446744073709551616, iP 0]⟩⟩
theorem pb39_ok : pb39.okS EE.G = true := by kernel_rfl
theorem pb39_run : evT EE paT 1000000000 (.call pb39.f pb39.args) pb39.heap (keptK pb39) = some (.bool true) := by kernel_rfl
theorem pb39_h : pb39.holds EE := ent_run envOk paT_holds _ _ pb39_ok pb39_run
-- decani/office.Chief, 7907 steps
noncomputable def pb60 : Ent :=
  ⟨14, [.agg ⟨[iP 3, iP 0, .slice (some ⟨6, 0, none⟩) 2 18446744073709551616, .slice (some ⟨7, 0, none⟩) 1 1, .bool false, .slice none 0 0, .bool false, .slice none 0 0]⟩, iP 0, iP 2], 8,
   gB ++ [(6, .cells true 4 [iP 2, iP 2, iP 1, iP 2, iP 2, iP 1]),
    (7, .cells true 0 [iP 1, iP 1, iP 1])],
   [.cells true 2 [iP 0]],
   .tuple ⟨[.slice (some ⟨8, 0, none⟩) 1 18446744073709551616, iP 0]⟩⟩
theorem pb60_ok : pb60.okS EE.G = true := by kernel_rfl
theorem pb60_run : evT EE paT 1000000000 (.call pb60.f pb60.args) pb60.heap (keptK pb60) = some (.bool true) := by kernel_rfl
theorem pb60_h : pb60.holds EE := ent_run envOk paT_holds _ _ pb60_ok pb60_run
-- decani/office.Kept, 10105 steps
noncomputable def pb81 : Ent :=
  ⟨11, [.agg ⟨[iP 3, iP 0, .slice (some ⟨6, 0, none⟩) 3 18446744073709551616, .slice (some ⟨7, 0, none⟩) 1 1, .bool false, .slice none 0 0, .bool false, .slice none 0 0]⟩, iP 0, iP 0], 8,
   gB ++ [(6, .cells true 4 [iP 2, iP 2, iP 1, iP 2, iP 2, iP 1, iP 2, iP 2, iP 1]),
    (7, .cells true 0 [iP 1, iP 1, iP 1])],
   [],
   .tuple ⟨[iP 2, iP 0]⟩⟩
theorem pb81_ok : pb81.okS EE.G = true := by kernel_rfl
theorem pb81_run : evT EE paT 1000000000 (.call pb81.f pb81.args) pb81.heap (keptK pb81) = some (.bool true) := by kernel_rfl
theorem pb81_h : pb81.holds EE := ent_run envOk paT_holds _ _ pb81_ok pb81_run
-- decani/office.Kept, 13517 steps
noncomputable def pb102 : Ent :=
  ⟨11, [.agg ⟨[iP 3, iP 0, .slice (some ⟨6, 0, none⟩) 4 18446744073709551616, .slice (some ⟨7, 0, none⟩) 1 1, .bool false, .slice none 0 0, .bool false, .slice none 0 0]⟩, iP 0, iP 1], 8,
   gB ++ [(6, .cells true 4 [iP 1, iP 1, iP 1, iP 1, iP 1, iP 1, iP 1, iP 1, iP 1, iP 1, iP 1, iP 1]),
    (7, .cells true 0 [iP 1, iP 1, iP 1])],
   [],
   .tuple ⟨[iP 2, iP 0]⟩⟩
theorem pb102_ok : pb102.okS EE.G = true := by kernel_rfl
theorem pb102_run : evT EE paT 1000000000 (.call pb102.f pb102.args) pb102.heap (keptK pb102) = some (.bool true) := by kernel_rfl
theorem pb102_h : pb102.holds EE := ent_run envOk paT_holds _ _ pb102_ok pb102_run
-- decani/office.Falls, 9449 steps
noncomputable def pb123 : Ent :=
  ⟨9, [.agg ⟨[iP 4, iP 0, .slice (some ⟨6, 0, none⟩) 2 18446744073709551616, .slice (some ⟨7, 0, none⟩) 1 1, .bool false, .slice none 0 0, .bool false, .slice none 0 0]⟩, iP 0, iP 0], 8,
   gB ++ [(6, .cells true 4 [iP 0, iP 0, iP 1, iP 0, iP 0, iP 1]),
    (7, .cells true 0 [iP 1, iP 1, iP 1])],
   [],
   .tuple ⟨[.agg ⟨[iP 0, iP 0]⟩, iP 0]⟩⟩
theorem pb123_ok : pb123.okS EE.G = true := by kernel_rfl
theorem pb123_run : evT EE paT 1000000000 (.call pb123.f pb123.args) pb123.heap (keptK pb123) = some (.bool true) := by kernel_rfl
theorem pb123_h : pb123.holds EE := ent_run envOk paT_holds _ _ pb123_ok pb123_run
-- decani/office.Falls, 9443 steps
noncomputable def pb144 : Ent :=
  ⟨9, [.agg ⟨[iP 4, iP 0, .slice (some ⟨6, 0, none⟩) 2 18446744073709551616, .slice (some ⟨7, 0, none⟩) 1 1, .bool false, .slice none 0 0, .bool false, .slice none 0 0]⟩, iP 0, iP 1], 8,
   gB ++ [(6, .cells true 4 [iP 3, iP 3, iP 1, iP 3, iP 3, iP 1]),
    (7, .cells true 0 [iP 1, iP 1, iP 1])],
   [],
   .tuple ⟨[.agg ⟨[iP 0, iP 0]⟩, iP 4]⟩⟩
theorem pb144_ok : pb144.okS EE.G = true := by kernel_rfl
theorem pb144_run : evT EE paT 1000000000 (.call pb144.f pb144.args) pb144.heap (keptK pb144) = some (.bool true) := by kernel_rfl
theorem pb144_h : pb144.holds EE := ent_run envOk paT_holds _ _ pb144_ok pb144_run
-- decani/office.Kept, 12395 steps
noncomputable def pb165 : Ent :=
  ⟨11, [.agg ⟨[iP 4, iP 0, .slice (some ⟨6, 0, none⟩) 3 18446744073709551616, .slice (some ⟨7, 0, none⟩) 1 1, .bool false, .slice none 0 0, .bool false, .slice none 0 0]⟩, iP 0, iP 0], 8,
   gB ++ [(6, .cells true 4 [iP 2, iP 2, iP 1, iP 2, iP 2, iP 1, iP 2, iP 2, iP 1]),
    (7, .cells true 0 [iP 1, iP 1, iP 1])],
   [],
   .tuple ⟨[iP 2, iP 0]⟩⟩
theorem pb165_ok : pb165.okS EE.G = true := by kernel_rfl
theorem pb165_run : evT EE paT 1000000000 (.call pb165.f pb165.args) pb165.heap (keptK pb165) = some (.bool true) := by kernel_rfl
theorem pb165_h : pb165.holds EE := ent_run envOk paT_holds _ _ pb165_ok pb165_run
-- decani/office.Kept, 16083 steps
noncomputable def pb186 : Ent :=
  ⟨11, [.agg ⟨[iP 4, iP 0, .slice (some ⟨6, 0, none⟩) 4 18446744073709551616, .slice (some ⟨7, 0, none⟩) 1 1, .bool false, .slice none 0 0, .bool false, .slice none 0 0]⟩, iP 0, iP 2], 8,
   gB ++ [(6, .cells true 4 [iP 0, iP 0, iP 1, iP 0, iP 0, iP 1, iP 0, iP 0, iP 1, iP 0, iP 0, iP 1]),
    (7, .cells true 0 [iP 1, iP 1, iP 1])],
   [],
   .tuple ⟨[iP 2, iP 0]⟩⟩
theorem pb186_ok : pb186.okS EE.G = true := by kernel_rfl
theorem pb186_run : evT EE paT 1000000000 (.call pb186.f pb186.args) pb186.heap (keptK pb186) = some (.bool true) := by kernel_rfl
theorem pb186_h : pb186.holds EE := ent_run envOk paT_holds _ _ pb186_ok pb186_run
-- decani/office.Chief, 15287 steps
noncomputable def pb207 : Ent :=
  ⟨14, [.agg ⟨[iP 4, iP 0, .slice (some ⟨6, 0, none⟩) 4 18446744073709551616, .slice (some ⟨7, 0, none⟩) 1 1, .bool false, .slice none 0 0, .bool false, .slice none 0 0]⟩, iP 0, iP 3], 8,
   gB ++ [(6, .cells true 4 [iP 2, iP 2, iP 1, iP 2, iP 2, iP 1, iP 2, iP 2, iP 1, iP 2, iP 2, iP 1]),
    (7, .cells true 0 [iP 1, iP 1, iP 1])],
   [.cells true 2 [iP 1]],
   .tuple ⟨[.slice (some ⟨8, 0, none⟩) 1 18446744073709551616, iP 0]⟩⟩
theorem pb207_ok : pb207.okS EE.G = true := by kernel_rfl
theorem pb207_run : evT EE paT 1000000000 (.call pb207.f pb207.args) pb207.heap (keptK pb207) = some (.bool true) := by kernel_rfl
theorem pb207_h : pb207.holds EE := ent_run envOk paT_holds _ _ pb207_ok pb207_run
-- decani/office.Kept, 8273 steps
noncomputable def pb228 : Ent :=
  ⟨11, [.agg ⟨[iP 5, iP 0, .slice (some ⟨6, 0, none⟩) 1 18446744073709551616, .slice (some ⟨7, 0, none⟩) 1 1, .bool false, .slice none 0 0, .bool false, .slice none 0 0]⟩, iP 0, iP 0], 8,
   gB ++ [(6, .cells true 4 [iP 2, iP 2, iP 1]),
    (7, .cells true 0 [iP 1, iP 1, iP 1])],
   [],
   .tuple ⟨[iP 2, iP 0]⟩⟩
theorem pb228_ok : pb228.okS EE.G = true := by kernel_rfl
theorem pb228_run : evT EE paT 1000000000 (.call pb228.f pb228.args) pb228.heap (keptK pb228) = some (.bool true) := by kernel_rfl
theorem pb228_h : pb228.holds EE := ent_run envOk paT_holds _ _ pb228_ok pb228_run
-- decani/office.Kept, 10897 steps
noncomputable def pb249 : Ent :=
  ⟨11, [.agg ⟨[iP 5, iP 0, .slice (some ⟨6, 0, none⟩) 2 18446744073709551616, .slice (some ⟨7, 0, none⟩) 1 1, .bool false, .slice none 0 0, .bool false, .slice none 0 0]⟩, iP 0, iP 0], 8,
   gB ++ [(6, .cells true 4 [iP 2, iP 2, iP 1, iP 2, iP 2, iP 1]),
    (7, .cells true 0 [iP 1, iP 1, iP 1])],
   [],
   .tuple ⟨[iP 2, iP 0]⟩⟩
theorem pb249_ok : pb249.okS EE.G = true := by kernel_rfl
theorem pb249_run : evT EE paT 1000000000 (.call pb249.f pb249.args) pb249.heap (keptK pb249) = some (.bool true) := by kernel_rfl
theorem pb249_h : pb249.holds EE := ent_run envOk paT_holds _ _ pb249_ok pb249_run
-- decani/office.Chief, 14065 steps
noncomputable def pb270 : Ent :=
  ⟨14, [.agg ⟨[iP 5, iP 0, .slice (some ⟨6, 0, none⟩) 3 18446744073709551616, .slice (some ⟨7, 0, none⟩) 1 1, .bool false, .slice none 0 0, .bool false, .slice none 0 0]⟩, iP 0, iP 1], 8,
   gB ++ [(6, .cells true 4 [iP 0, iP 0, iP 1, iP 0, iP 0, iP 1, iP 0, iP 0, iP 1]),
    (7, .cells true 0 [iP 1, iP 1, iP 1])],
   [.cells true 2 [iP 1]],
   .tuple ⟨[.slice (some ⟨8, 0, none⟩) 1 18446744073709551616, iP 0]⟩⟩
theorem pb270_ok : pb270.okS EE.G = true := by kernel_rfl
theorem pb270_run : evT EE paT 1000000000 (.call pb270.f pb270.args) pb270.heap (keptK pb270) = some (.bool true) := by kernel_rfl
theorem pb270_h : pb270.holds EE := ent_run envOk paT_holds _ _ pb270_ok pb270_run
-- decani/office.Kept, 14066 steps
noncomputable def pb291 : Ent :=
  ⟨11, [.agg ⟨[iP 5, iP 0, .slice (some ⟨6, 0, none⟩) 3 18446744073709551616, .slice (some ⟨7, 0, none⟩) 1 1, .bool false, .slice none 0 0, .bool false, .slice none 0 0]⟩, iP 0, iP 0], 8,
   gB ++ [(6, .cells true 4 [iP 3, iP 3, iP 1, iP 3, iP 3, iP 1, iP 3, iP 3, iP 1]),
    (7, .cells true 0 [iP 1, iP 1, iP 1])],
   [],
   .tuple ⟨[iP 2, iP 0]⟩⟩
theorem pb291_ok : pb291.okS EE.G = true := by kernel_rfl
theorem pb291_run : evT EE paT 1000000000 (.call pb291.f pb291.args) pb291.heap (keptK pb291) = some (.bool true) := by kernel_rfl
theorem pb291_h : pb291.holds EE := ent_run envOk paT_holds _ _ pb291_ok pb291_run
-- decani/office.Kept, 17891 steps
noncomputable def pb312 : Ent :=
  ⟨11, [.agg ⟨[iP 5, iP 0, .slice (some ⟨6, 0, none⟩) 4 18446744073709551616, .slice (some ⟨7, 0, none⟩) 1 1, .bool false, .slice none 0 0, .bool false, .slice none 0 0]⟩, iP 0, iP 2], 8,
   gB ++ [(6, .cells true 4 [iP 0, iP 0, iP 1, iP 0, iP 0, iP 1, iP 0, iP 0, iP 1, iP 0, iP 0, iP 1]),
    (7, .cells true 0 [iP 1, iP 1, iP 1])],
   [],
   .tuple ⟨[iP 2, iP 0]⟩⟩
theorem pb312_ok : pb312.okS EE.G = true := by kernel_rfl
theorem pb312_run : evT EE paT 1000000000 (.call pb312.f pb312.args) pb312.heap (keptK pb312) = some (.bool true) := by kernel_rfl
theorem pb312_h : pb312.holds EE := ent_run envOk paT_holds _ _ pb312_ok pb312_run
-- decani/office.Kept, 17854 steps
noncomputable def pb333 : Ent :=
  ⟨11, [.agg ⟨[iP 5, iP 0, .slice (some ⟨6, 0, none⟩) 4 18446744073709551616, .slice (some ⟨7, 0, none⟩) 1 1, .bool false, .slice none 0 0, .bool false, .slice none 0 0]⟩, iP 0, iP 1], 8,
   gB ++ [(6, .cells true 4 [iP 2, iP 2, iP 1, iP 2, iP 2, iP 1, iP 2, iP 2, iP 1, iP 2, iP 2, iP 1]),
    (7, .cells true 0 [iP 1, iP 1, iP 1])],
   [],
   .tuple ⟨[iP 2, iP 0]⟩⟩
theorem pb333_ok : pb333.okS EE.G = true := by kernel_rfl
theorem pb333_run : evT EE paT 1000000000 (.call pb333.f pb333.args) pb333.heap (keptK pb333) = some (.bool true) := by kernel_rfl
theorem pb333_h : pb333.holds EE := ent_run envOk paT_holds _ _ pb333_ok pb333_run
-- decani/office.Kept, 15989 steps
noncomputable def pb354 : Ent :=
  ⟨11, [.agg ⟨[iP 5, iP 0, .slice (some ⟨6, 0, none⟩) 4 18446744073709551616, .slice (some ⟨7, 0, none⟩) 1 1, .bool false, .slice none 0 0, .bool false, .slice none 0 0]⟩, iP 0, iP 1], 8,
   gB ++ [(6, .cells true 4 [iP 4, iP 4, iP 1, iP 4, iP 4, iP 1, iP 4, iP 4, iP 1, iP 4, iP 4, iP 1]),
    (7, .cells true 0 [iP 1, iP 1, iP 1])],
   [],
   .tuple ⟨[iP 0, iP 0]⟩⟩
theorem pb354_ok : pb354.okS EE.G = true := by kernel_rfl
theorem pb354_run : evT EE paT 1000000000 (.call pb354.f pb354.args) pb354.heap (keptK pb354) = some (.bool true) := by kernel_rfl
theorem pb354_h : pb354.holds EE := ent_run envOk paT_holds _ _ pb354_ok pb354_run
-- decani/office.Kept, 9670 steps
noncomputable def pb375 : Ent :=
  ⟨11, [.agg ⟨[iP 6, iP 0, .slice (some ⟨6, 0, none⟩) 1 18446744073709551616, .slice (some ⟨7, 0, none⟩) 1 1, .bool false, .slice none 0 0, .bool false, .slice none 0 0]⟩, iP 0, iP 0], 8,
   gB ++ [(6, .cells true 4 [iP 5, iP 5, iP 1]),
    (7, .cells true 0 [iP 1, iP 1, iP 1])],
   [],
   .tuple ⟨[iP 2, iP 0]⟩⟩
theorem pb375_ok : pb375.okS EE.G = true := by kernel_rfl
theorem pb375_run : evT EE paT 1000000000 (.call pb375.f pb375.args) pb375.heap (keptK pb375) = some (.bool true) := by kernel_rfl
theorem pb375_h : pb375.holds EE := ent_run envOk paT_holds _ _ pb375_ok pb375_run
-- decani/office.Kept, 12380 steps
noncomputable def pb396 : Ent :=
  ⟨11, [.agg ⟨[iP 6, iP 0, .slice (some ⟨6, 0, none⟩) 2 18446744073709551616, .slice (some ⟨7, 0, none⟩) 1 1, .bool false, .slice none 0 0, .bool false, .slice none 0 0]⟩, iP 0, iP 0], 8,
   gB ++ [(6, .cells true 4 [iP 3, iP 3, iP 1, iP 3, iP 3, iP 1]),
    (7, .cells true 0 [iP 1, iP 1, iP 1])],
   [],
   .tuple ⟨[iP 2, iP 0]⟩⟩
theorem pb396_ok : pb396.okS EE.G = true := by kernel_rfl
theorem pb396_run : evT EE paT 1000000000 (.call pb396.f pb396.args) pb396.heap (keptK pb396) = some (.bool true) := by kernel_rfl
theorem pb396_h : pb396.holds EE := ent_run envOk paT_holds _ _ pb396_ok pb396_run
-- decani/office.Chief, 15685 steps
noncomputable def pb417 : Ent :=
  ⟨14, [.agg ⟨[iP 6, iP 0, .slice (some ⟨6, 0, none⟩) 3 18446744073709551616, .slice (some ⟨7, 0, none⟩) 1 1, .bool false, .slice none 0 0, .bool false, .slice none 0 0]⟩, iP 0, iP 1], 8,
   gB ++ [(6, .cells true 4 [iP 0, iP 0, iP 1, iP 0, iP 0, iP 1, iP 0, iP 0, iP 1]),
    (7, .cells true 0 [iP 1, iP 1, iP 1])],
   [.cells true 2 [iP 1]],
   .tuple ⟨[.slice (some ⟨8, 0, none⟩) 1 18446744073709551616, iP 0]⟩⟩
theorem pb417_ok : pb417.okS EE.G = true := by kernel_rfl
theorem pb417_run : evT EE paT 1000000000 (.call pb417.f pb417.args) pb417.heap (keptK pb417) = some (.bool true) := by kernel_rfl
theorem pb417_h : pb417.holds EE := ent_run envOk paT_holds _ _ pb417_ok pb417_run
-- decani/office.Chief, 15685 steps
noncomputable def pb438 : Ent :=
  ⟨14, [.agg ⟨[iP 6, iP 0, .slice (some ⟨6, 0, none⟩) 3 18446744073709551616, .slice (some ⟨7, 0, none⟩) 1 1, .bool false, .slice none 0 0, .bool false, .slice none 0 0]⟩, iP 0, iP 4], 8,
   gB ++ [(6, .cells true 4 [iP 2, iP 2, iP 1, iP 2, iP 2, iP 1, iP 2, iP 2, iP 1]),
    (7, .cells true 0 [iP 1, iP 1, iP 1])],
   [.cells true 2 [iP 2]],
   .tuple ⟨[.slice (some ⟨8, 0, none⟩) 1 18446744073709551616, iP 0]⟩⟩
theorem pb438_ok : pb438.okS EE.G = true := by kernel_rfl
theorem pb438_run : evT EE paT 1000000000 (.call pb438.f pb438.args) pb438.heap (keptK pb438) = some (.bool true) := by kernel_rfl
theorem pb438_h : pb438.holds EE := ent_run envOk paT_holds _ _ pb438_ok pb438_run
-- decani/office.Falls, 15133 steps
noncomputable def pb459 : Ent :=
  ⟨9, [.agg ⟨[iP 6, iP 0, .slice (some ⟨6, 0, none⟩) 3 18446744073709551616, .slice (some ⟨7, 0, none⟩) 1 1, .bool false, .slice none 0 0, .bool false, .slice none 0 0]⟩, iP 0, iP 1], 8,
   gB ++ [(6, .cells true 4 [iP 5, iP 5, iP 1, iP 5, iP 5, iP 1, iP 5, iP 5, iP 1]),
    (7, .cells true 0 [iP 1, iP 1, iP 1])],
   [],
   .tuple ⟨[.agg ⟨[iP 0, iP 0]⟩, iP 4]⟩⟩
theorem pb459_ok : pb459.okS EE.G = true := by kernel_rfl
theorem pb459_run : evT EE paT 1000000000 (.call pb459.f pb459.args) pb459.heap (keptK pb459) = some (.bool true) := by kernel_rfl
theorem pb459_h : pb459.holds EE := ent_run envOk paT_holds _ _ pb459_ok pb459_run
-- decani/office.Chief, 19661 steps
noncomputable def pb480 : Ent :=
  ⟨14, [.agg ⟨[iP 6, iP 0, .slice (some ⟨6, 0, none⟩) 4 18446744073709551616, .slice (some ⟨7, 0, none⟩) 1 1, .bool false, .slice none 0 0, .bool false, .slice none 0 0]⟩, iP 0, iP 2], 8,
   gB ++ [(6, .cells true 4 [iP 1, iP 1, iP 1, iP 1, iP 1, iP 1, iP 1, iP 1, iP 1, iP 1, iP 1, iP 1]),
    (7, .cells true 0 [iP 1, iP 1, iP 1])],
   [.cells true 2 [iP 1]],
   .tuple ⟨[.slice (some ⟨8, 0, none⟩) 1 18446744073709551616, iP 0]⟩⟩
theorem pb480_ok : pb480.okS EE.G = true := by kernel_rfl
theorem pb480_run : evT EE paT 1000000000 (.call pb480.f pb480.args) pb480.heap (keptK pb480) = some (.bool true) := by kernel_rfl
theorem pb480_h : pb480.holds EE := ent_run envOk paT_holds _ _ pb480_ok pb480_run
-- decani/office.Chief, 19573 steps
noncomputable def pb501 : Ent :=
  ⟨14, [.agg ⟨[iP 6, iP 0, .slice (some ⟨6, 0, none⟩) 4 18446744073709551616, .slice (some ⟨7, 0, none⟩) 1 1, .bool false, .slice none 0 0, .bool false, .slice none 0 0]⟩, iP 0, iP 3], 8,
   gB ++ [(6, .cells true 4 [iP 3, iP 3, iP 1, iP 3, iP 3, iP 1, iP 3, iP 3, iP 1, iP 3, iP 3, iP 1]),
    (7, .cells true 0 [iP 1, iP 1, iP 1])],
   [.cells true 2 [iP 0]],
   .tuple ⟨[.slice (some ⟨8, 0, none⟩) 1 18446744073709551616, iP 0]⟩⟩
theorem pb501_ok : pb501.okS EE.G = true := by kernel_rfl
theorem pb501_run : evT EE paT 1000000000 (.call pb501.f pb501.args) pb501.heap (keptK pb501) = some (.bool true) := by kernel_rfl
theorem pb501_h : pb501.holds EE := ent_run envOk paT_holds _ _ pb501_ok pb501_run
-- decani/office.Chief, 17651 steps
noncomputable def pb522 : Ent :=
  ⟨14, [.agg ⟨[iP 6, iP 0, .slice (some ⟨6, 0, none⟩) 4 18446744073709551616, .slice (some ⟨7, 0, none⟩) 1 1, .bool false, .slice none 0 0, .bool false, .slice none 0 0]⟩, iP 0, iP 5], 8,
   gB ++ [(6, .cells true 4 [iP 5, iP 5, iP 1, iP 5, iP 5, iP 1, iP 5, iP 5, iP 1, iP 5, iP 5, iP 1]),
    (7, .cells true 0 [iP 1, iP 1, iP 1])],
   [.cells true 2 [iP 0]],
   .tuple ⟨[.slice (some ⟨8, 0, none⟩) 1 18446744073709551616, iP 0]⟩⟩
theorem pb522_ok : pb522.okS EE.G = true := by kernel_rfl
theorem pb522_run : evT EE paT 1000000000 (.call pb522.f pb522.args) pb522.heap (keptK pb522) = some (.bool true) := by kernel_rfl
theorem pb522_h : pb522.holds EE := ent_run envOk paT_holds _ _ pb522_ok pb522_run
-- decani/office.Falls, 6585 steps
noncomputable def pb543 : Ent :=
  ⟨9, [.agg ⟨[iP 2, iP 0, .slice (some ⟨6, 0, none⟩) 2 18446744073709551616, .slice (some ⟨7, 0, none⟩) 1 1, .bool false, .slice none 0 0, .bool false, .slice none 0 0]⟩, iP 0, iP 0], 8,
   gB ++ [(6, .cells true 4 [iP 0, iP 0, iP 1, iP 0, iP 0, iP 1]),
    (7, .cells true 0 [iP 1, iP 1, iP 1])],
   [],
   .tuple ⟨[.agg ⟨[iP 0, iP 0]⟩, iP 0]⟩⟩
theorem pb543_ok : pb543.okS EE.G = true := by kernel_rfl
theorem pb543_run : evT EE paT 1000000000 (.call pb543.f pb543.args) pb543.heap (keptK pb543) = some (.bool true) := by kernel_rfl
theorem pb543_h : pb543.holds EE := ent_run envOk paT_holds _ _ pb543_ok pb543_run
-- decani/office.Kept, 6499 steps
noncomputable def pb548 : Ent :=
  ⟨11, [.agg ⟨[iP 2, iP 0, .slice (some ⟨6, 0, none⟩) 2 18446744073709551616, .slice (some ⟨7, 0, none⟩) 1 1, .bool false, .slice none 0 0, .bool false, .slice none 0 0]⟩, iP 0, iP 0], 8,
   gB ++ [(6, .cells true 4 [iP 0, iP 0, iP 1, iP 0, iP 0, iP 1]),
    (7, .cells true 0 [iP 1, iP 1, iP 1])],
   [],
   .tuple ⟨[iP 2, iP 0]⟩⟩
theorem pb548_ok : pb548.okS EE.G = true := by kernel_rfl
theorem pb548_run : evT EE paT 1000000000 (.call pb548.f pb548.args) pb548.heap (keptK pb548) = some (.bool true) := by kernel_rfl
theorem pb548_h : pb548.holds EE := ent_run envOk paT_holds _ _ pb548_ok pb548_run
end Go.Proofs.YtmjpnohpmfmdlaaGreatDoor
