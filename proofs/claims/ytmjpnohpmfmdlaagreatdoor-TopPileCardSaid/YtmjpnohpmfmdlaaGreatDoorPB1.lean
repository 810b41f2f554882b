/- Known calls, part 1: what single calls hand back, at small heaps, by the kernel's own run of the evaluator. No conditions. -/
import Derived.Test.YtmjpnohpmfmdlaaGreatDoorPAT
set_option linter.all false
namespace Go.Proofs.YtmjpnohpmfmdlaaGreatDoor
open Go.Ai
set_option maxRecDepth 1000000
-- decani/office.Kept, 27149 steps
noncomputable def pb1 : Ent :=
  ⟨11, [.agg ⟨[iP 6, iP 0, .slice (some ⟨6, 0, none⟩) 2 2, .slice none 0 0, .bool false, .slice none 0 0, .bool false, .slice none 0 0]⟩, iP 0, iP 1], 7,
   gB ++ [(6, .cells true 0 [iP 0, iP 1, iP 2, iP 1, iP 2, iP 2])],
   [],
   .tuple ⟨[iP 1, iP 0]⟩⟩
theorem pb1_ok : pb1.okS EE.G = true := by kernel_rfl
theorem pb1_run : evT EE paT 1000000000 (.call pb1.f pb1.args) pb1.heap (keptK pb1) = some (.bool true) := by kernel_rfl
theorem pb1_h : pb1.holds EE := ent_run envOk paT_holds _ _ pb1_ok pb1_run
-- decani/office.Chief, 8447 steps
noncomputable def pb22 : Ent :=
  ⟨14, [.agg ⟨[iP 2, iP 0, .slice (some ⟨6, 0, none⟩) 3 18446744073709551616, .slice (some ⟨7, 0, none⟩) 1 1, .bool false, .slice none 0 0, .bool false, .slice none 0 0]⟩, iP 0, iP 1], 8,
   gB ++ [(6, .cells true 4 [iP 1, iP 1, iP 1, iP 1, iP 1, iP 1, iP 1, iP 1, iP 1]),
    (7, .cells true 0 [iP 1, iP 1, iP 1])],
   [.cells true 2 [iP 0]],
   .tuple ⟨[.slice (some ⟨8, 0, none⟩) 1 18446744073709551616, iP 0]⟩⟩
theorem pb22_ok : pb22.okS EE.G = true := by kernel_rfl
theorem pb22_run : evT EE paT 1000000000 (.call pb22.f pb22.args) pb22.heap (keptK pb22) = some (.bool true) := by kernel_rfl
theorem pb22_h : pb22.holds EE := ent_run envOk paT_holds _ _ pb22_ok pb22_run
-- decani/office.Kept, 10412 steps
noncomputable def pb43 : Ent :=
  ⟨11, [.agg ⟨[iP 2, iP 0, .slice (some ⟨6, 0, none⟩) 4 18446744073709551616, .slice (some ⟨7, 0, none⟩) 1 1, .bool false, .slice none 0 0, .bool false, .slice none 0 0]⟩, iP 0, iP 2], 8,
   gB ++ [(6, .cells true 4 [iP 1, iP 1, iP 1, iP 1, iP 1, iP 1, iP 1, iP 1, iP 1, iP 1, iP 1, iP 1]),
    (7, .cells true 0 [iP 1, iP 1, iP 1])],
   [],
   .tuple ⟨[iP 0, iP 0]⟩⟩
theorem pb43_ok : pb43.okS EE.G = true := by kernel_rfl
theorem pb43_run : evT EE paT 1000000000 (.call pb43.f pb43.args) pb43.heap (keptK pb43) = some (.bool true) := by kernel_rfl
theorem pb43_h : pb43.holds EE := ent_run envOk paT_holds _ _ pb43_ok pb43_run
-- decani/office.Kept, 10761 steps
noncomputable def pb64 : Ent :=
  ⟨11, [.agg ⟨[iP 3, iP 0, .slice (some ⟨6, 0, none⟩) 3 18446744073709551616, .slice (some ⟨7, 0, none⟩) 1 1, .bool false, .slice none 0 0, .bool false, .slice none 0 0]⟩, iP 0, iP 0], 8,
   gB ++ [(6, .cells true 4 [iP 0, iP 0, iP 1, iP 0, iP 0, iP 1, iP 0, iP 0, iP 1]),
    (7, .cells true 0 [iP 1, iP 1, iP 1])],
   [],
   .tuple ⟨[iP 2, iP 0]⟩⟩
theorem pb64_ok : pb64.okS EE.G = true := by kernel_rfl
theorem pb64_run : evT EE paT 1000000000 (.call pb64.f pb64.args) pb64.heap (keptK pb64) = some (.bool true) := by kernel_rfl
theorem pb64_h : pb64.holds EE := ent_run envOk paT_holds _ _ pb64_ok pb64_run
-- decani/office.Falls, 10120 steps
noncomputable def pb85 : Ent :=
  ⟨9, [.agg ⟨[iP 3, iP 0, .slice (some ⟨6, 0, none⟩) 3 18446744073709551616, .slice (some ⟨7, 0, none⟩) 1 1, .bool false, .slice none 0 0, .bool false, .slice none 0 0]⟩, iP 0, iP 2], 8,
   gB ++ [(6, .cells true 4 [iP 2, iP 2, iP 1, iP 2, iP 2, iP 1, iP 2, iP 2, iP 1]),
    (7, .cells true 0 [iP 1, iP 1, iP 1])],
   [],
   .tuple ⟨[.agg ⟨[iP 0, iP 0]⟩, iP 4]⟩⟩
theorem pb85_ok : pb85.okS EE.G = true := by kernel_rfl
theorem pb85_run : evT EE paT 1000000000 (.call pb85.f pb85.args) pb85.heap (keptK pb85) = some (.bool true) := by kernel_rfl
theorem pb85_h : pb85.holds EE := ent_run envOk paT_holds _ _ pb85_ok pb85_run
-- decani/office.Falls, 13532 steps
noncomputable def pb106 : Ent :=
  ⟨9, [.agg ⟨[iP 3, iP 0, .slice (some ⟨6, 0, none⟩) 4 18446744073709551616, .slice (some ⟨7, 0, none⟩) 1 1, .bool false, .slice none 0 0, .bool false, .slice none 0 0]⟩, iP 0, iP 3], 8,
   gB ++ [(6, .cells true 4 [iP 1, iP 1, iP 1, iP 1, iP 1, iP 1, iP 1, iP 1, iP 1, iP 1, iP 1, iP 1]),
    (7, .cells true 0 [iP 1, iP 1, iP 1])],
   [],
   .tuple ⟨[.agg ⟨[iP 0, iP 0]⟩, iP 4]⟩⟩
theorem pb106_ok : pb106.okS EE.G = true := by kernel_rfl
theorem pb106_run : evT EE paT 1000000000 (.call pb106.f pb106.args) pb106.heap (keptK pb106) = some (.bool true) := by kernel_rfl
theorem pb106_h : pb106.holds EE := ent_run envOk paT_holds _ _ pb106_ok pb106_run
-- decani/office.Kept, 9414 steps
noncomputable def pb127 : Ent :=
  ⟨11, [.agg ⟨[iP 4, iP 0, .slice (some ⟨6, 0, none⟩) 2 18446744073709551616, .slice (some ⟨7, 0, none⟩) 1 1, .bool false, .slice none 0 0, .bool false, .slice none 0 0]⟩, iP 0, iP 1], 8,
   gB ++ [(6, .cells true 4 [iP 0, iP 0, iP 1, iP 0, iP 0, iP 1]),
    (7, .cells true 0 [iP 1, iP 1, iP 1])],
   [],
   .tuple ⟨[iP 2, iP 0]⟩⟩
theorem pb127_ok : pb127.okS EE.G = true := by kernel_rfl
theorem pb127_run : evT EE paT 1000000000 (.call pb127.f pb127.args) pb127.heap (keptK pb127) = some (.bool true) := by kernel_rfl
theorem pb127_h : pb127.holds EE := ent_run envOk paT_holds _ _ pb127_ok pb127_run
-- decani/office.Chief, 12445 steps
noncomputable def pb148 : Ent :=
  ⟨14, [.agg ⟨[iP 4, iP 0, .slice (some ⟨6, 0, none⟩) 3 18446744073709551616, .slice (some ⟨7, 0, none⟩) 1 1, .bool false, .slice none 0 0, .bool false, .slice none 0 0]⟩, iP 0, iP 0], 8,
   gB ++ [(6, .cells true 4 [iP 0, iP 0, iP 1, iP 0, iP 0, iP 1, iP 0, iP 0, iP 1]),
    (7, .cells true 0 [iP 1, iP 1, iP 1])],
   [.cells true 2 [iP 0]],
   .tuple ⟨[.slice (some ⟨8, 0, none⟩) 1 18446744073709551616, iP 0]⟩⟩
theorem pb148_ok : pb148.okS EE.G = true := by kernel_rfl
theorem pb148_run : evT EE paT 1000000000 (.call pb148.f pb148.args) pb148.heap (keptK pb148) = some (.bool true) := by kernel_rfl
theorem pb148_h : pb148.holds EE := ent_run envOk paT_holds _ _ pb148_ok pb148_run
-- decani/office.Chief, 12357 steps
noncomputable def pb169 : Ent :=
  ⟨14, [.agg ⟨[iP 4, iP 0, .slice (some ⟨6, 0, none⟩) 3 18446744073709551616, .slice (some ⟨7, 0, none⟩) 1 1, .bool false, .slice none 0 0, .bool false, .slice none 0 0]⟩, iP 0, iP 3], 8,
   gB ++ [(6, .cells true 4 [iP 2, iP 2, iP 1, iP 2, iP 2, iP 1, iP 2, iP 2, iP 1]),
    (7, .cells true 0 [iP 1, iP 1, iP 1])],
   [.cells true 2 [iP 1]],
   .tuple ⟨[.slice (some ⟨8, 0, none⟩) 1 18446744073709551616, iP 0]⟩⟩
theorem pb169_ok : pb169.okS EE.G = true := by kernel_rfl
theorem pb169_run : evT EE paT 1000000000 (.call pb169.f pb169.args) pb169.heap (keptK pb169) = some (.bool true) := by kernel_rfl
theorem pb169_h : pb169.holds EE := ent_run envOk paT_holds _ _ pb169_ok pb169_run
-- decani/office.Chief, 16045 steps
noncomputable def pb190 : Ent :=
  ⟨14, [.agg ⟨[iP 4, iP 0, .slice (some ⟨6, 0, none⟩) 4 18446744073709551616, .slice (some ⟨7, 0, none⟩) 1 1, .bool false, .slice none 0 0, .bool false, .slice none 0 0]⟩, iP 0, iP 3], 8,
   gB ++ [(6, .cells true 4 [iP 0, iP 0, iP 1, iP 0, iP 0, iP 1, iP 0, iP 0, iP 1, iP 0, iP 0, iP 1]),
    (7, .cells true 0 [iP 1, iP 1, iP 1])],
   [.cells true 2 [iP 3]],
   .tuple ⟨[.slice (some ⟨8, 0, none⟩) 1 18446744073709551616, iP 0]⟩⟩
theorem pb190_ok : pb190.okS EE.G = true := by kernel_rfl
theorem pb190_run : evT EE paT 1000000000 (.call pb190.f pb190.args) pb190.heap (keptK pb190) = some (.bool true) := by kernel_rfl
theorem pb190_h : pb190.holds EE := ent_run envOk paT_holds _ _ pb190_ok pb190_run
-- decani/office.Kept, 15382 steps
noncomputable def pb211 : Ent :=
  ⟨11, [.agg ⟨[iP 4, iP 0, .slice (some ⟨6, 0, none⟩) 4 18446744073709551616, .slice (some ⟨7, 0, none⟩) 1 1, .bool false, .slice none 0 0, .bool false, .slice none 0 0]⟩, iP 0, iP 3], 8,
   gB ++ [(6, .cells true 4 [iP 2, iP 2, iP 1, iP 2, iP 2, iP 1, iP 2, iP 2, iP 1, iP 2, iP 2, iP 1]),
    (7, .cells true 0 [iP 1, iP 1, iP 1])],
   [],
   .tuple ⟨[iP 0, iP 0]⟩⟩
theorem pb211_ok : pb211.okS EE.G = true := by kernel_rfl
theorem pb211_run : evT EE paT 1000000000 (.call pb211.f pb211.args) pb211.heap (keptK pb211) = some (.bool true) := by kernel_rfl
theorem pb211_h : pb211.holds EE := ent_run envOk paT_holds _ _ pb211_ok pb211_run
-- decani/office.Chief, 8235 steps
noncomputable def pb232 : Ent :=
  ⟨14, [.agg ⟨[iP 5, iP 0, .slice (some ⟨6, 0, none⟩) 1 18446744073709551616, .slice (some ⟨7, 0, none⟩) 1 1, .bool false, .slice none 0 0, .bool false, .slice none 0 0]⟩, iP 0, iP 3], 8,
   gB ++ [(6, .cells true 4 [iP 3, iP 3, iP 1]),
    (7, .cells true 0 [iP 1, iP 1, iP 1])],
   [.cells true 2 [iP 0]],
   .tuple ⟨[.slice (some ⟨8, 0, none⟩) 1 18446744073709551616, iP 0]⟩⟩
theorem pb232_ok : pb232.okS EE.G = true := by kernel_rfl
theorem pb232_run : evT EE paT 1000000000 (.call pb232.f pb232.args) pb232.heap (keptK pb232) = some (.bool true) := by kernel_rfl
theorem pb232_h : pb232.holds EE := ent_run envOk paT_holds _ _ pb232_ok pb232_run
-- decani/office.Chief, 10859 steps
noncomputable def pb253 : Ent :=
  ⟨14, [.agg ⟨[iP 5, iP 0, .slice (some ⟨6, 0, none⟩) 2 18446744073709551616, .slice (some ⟨7, 0, none⟩) 1 1, .bool false, .slice none 0 0, .bool false, .slice none 0 0]⟩, iP 0, iP 3], 8,
   gB ++ [(6, .cells true 4 [iP 2, iP 2, iP 1, iP 2, iP 2, iP 1]),
    (7, .cells true 0 [iP 1, iP 1, iP 1])],
   [.cells true 2 [iP 1]],
   .tuple ⟨[.slice (some ⟨8, 0, none⟩) 1 18446744073709551616, iP 0]⟩⟩
theorem pb253_ok : pb253.okS EE.G = true := by kernel_rfl
theorem pb253_run : evT EE paT 1000000000 (.call pb253.f pb253.args) pb253.heap (keptK pb253) = some (.bool true) := by kernel_rfl
theorem pb253_h : pb253.holds EE := ent_run envOk paT_holds _ _ pb253_ok pb253_run
-- decani/office.Falls, 14138 steps
noncomputable def pb274 : Ent :=
  ⟨9, [.agg ⟨[iP 5, iP 0, .slice (some ⟨6, 0, none⟩) 3 18446744073709551616, .slice (some ⟨7, 0, none⟩) 1 1, .bool false, .slice none 0 0, .bool false, .slice none 0 0]⟩, iP 0, iP 0], 8,
   gB ++ [(6, .cells true 4 [iP 1, iP 1, iP 1, iP 1, iP 1, iP 1, iP 1, iP 1, iP 1]),
    (7, .cells true 0 [iP 1, iP 1, iP 1])],
   [],
   .tuple ⟨[.agg ⟨[iP 1, iP 1]⟩, iP 0]⟩⟩
theorem pb274_ok : pb274.okS EE.G = true := by kernel_rfl
theorem pb274_run : evT EE paT 1000000000 (.call pb274.f pb274.args) pb274.heap (keptK pb274) = some (.bool true) := by kernel_rfl
theorem pb274_h : pb274.holds EE := ent_run envOk paT_holds _ _ pb274_ok pb274_run
-- decani/office.Chief, 13977 steps
noncomputable def pb295 : Ent :=
  ⟨14, [.agg ⟨[iP 5, iP 0, .slice (some ⟨6, 0, none⟩) 3 18446744073709551616, .slice (some ⟨7, 0, none⟩) 1 1, .bool false, .slice none 0 0, .bool false, .slice none 0 0]⟩, iP 0, iP 4], 8,
   gB ++ [(6, .cells true 4 [iP 3, iP 3, iP 1, iP 3, iP 3, iP 1, iP 3, iP 3, iP 1]),
    (7, .cells true 0 [iP 1, iP 1, iP 1])],
   [.cells true 2 [iP 1]],
   .tuple ⟨[.slice (some ⟨8, 0, none⟩) 1 18446744073709551616, iP 0]⟩⟩
theorem pb295_ok : pb295.okS EE.G = true := by kernel_rfl
theorem pb295_run : evT EE paT 1000000000 (.call pb295.f pb295.args) pb295.heap (keptK pb295) = some (.bool true) := by kernel_rfl
theorem pb295_h : pb295.holds EE := ent_run envOk paT_holds _ _ pb295_ok pb295_run
-- decani/office.Chief, 17853 steps
noncomputable def pb316 : Ent :=
  ⟨14, [.agg ⟨[iP 5, iP 0, .slice (some ⟨6, 0, none⟩) 4 18446744073709551616, .slice (some ⟨7, 0, none⟩) 1 1, .bool false, .slice none 0 0, .bool false, .slice none 0 0]⟩, iP 0, iP 3], 8,
   gB ++ [(6, .cells true 4 [iP 0, iP 0, iP 1, iP 0, iP 0, iP 1, iP 0, iP 0, iP 1, iP 0, iP 0, iP 1]),
    (7, .cells true 0 [iP 1, iP 1, iP 1])],
   [.cells true 2 [iP 3]],
   .tuple ⟨[.slice (some ⟨8, 0, none⟩) 1 18446744073709551616, iP 0]⟩⟩
theorem pb316_ok : pb316.okS EE.G = true := by kernel_rfl
theorem pb316_run : evT EE paT 1000000000 (.call pb316.f pb316.args) pb316.heap (keptK pb316) = some (.bool true) := by kernel_rfl
theorem pb316_h : pb316.holds EE := ent_run envOk paT_holds _ _ pb316_ok pb316_run
-- decani/office.Chief, 17765 steps
noncomputable def pb337 : Ent :=
  ⟨14, [.agg ⟨[iP 5, iP 0, .slice (some ⟨6, 0, none⟩) 4 18446744073709551616, .slice (some ⟨7, 0, none⟩) 1 1, .bool false, .slice none 0 0, .bool false, .slice none 0 0]⟩, iP 0, iP 4], 8,
   gB ++ [(6, .cells true 4 [iP 2, iP 2, iP 1, iP 2, iP 2, iP 1, iP 2, iP 2, iP 1, iP 2, iP 2, iP 1]),
    (7, .cells true 0 [iP 1, iP 1, iP 1])],
   [.cells true 2 [iP 2]],
   .tuple ⟨[.slice (some ⟨8, 0, none⟩) 1 18446744073709551616, iP 0]⟩⟩
theorem pb337_ok : pb337.okS EE.G = true := by kernel_rfl
theorem pb337_run : evT EE paT 1000000000 (.call pb337.f pb337.args) pb337.heap (keptK pb337) = some (.bool true) := by kernel_rfl
theorem pb337_h : pb337.holds EE := ent_run envOk paT_holds _ _ pb337_ok pb337_run
-- decani/office.Kept, 15989 steps
noncomputable def pb358 : Ent :=
  ⟨11, [.agg ⟨[iP 5, iP 0, .slice (some ⟨6, 0, none⟩) 4 18446744073709551616, .slice (some ⟨7, 0, none⟩) 1 1, .bool false, .slice none 0 0, .bool false, .slice none 0 0]⟩, iP 0, iP 3], 8,
   gB ++ [(6, .cells true 4 [iP 4, iP 4, iP 1, iP 4, iP 4, iP 1, iP 4, iP 4, iP 1, iP 4, iP 4, iP 1]),
    (7, .cells true 0 [iP 1, iP 1, iP 1])],
   [],
   .tuple ⟨[iP 0, iP 0]⟩⟩
theorem pb358_ok : pb358.okS EE.G = true := by kernel_rfl
theorem pb358_run : evT EE paT 1000000000 (.call pb358.f pb358.args) pb358.heap (keptK pb358) = some (.bool true) := by kernel_rfl
theorem pb358_h : pb358.holds EE := ent_run envOk paT_holds _ _ pb358_ok pb358_run
-- decani/office.Chief, 12291 steps
noncomputable def pb379 : Ent :=
  ⟨14, [.agg ⟨[iP 6, iP 0, .slice (some ⟨6, 0, none⟩) 2 18446744073709551616, .slice (some ⟨7, 0, none⟩) 1 1, .bool false, .slice none 0 0, .bool false, .slice none 0 0]⟩, iP 0, iP 0], 8,
   gB ++ [(6, .cells true 4 [iP 0, iP 0, iP 1, iP 0, iP 0, iP 1]),
    (7, .cells true 0 [iP 1, iP 1, iP 1])],
   [.cells true 2 [iP 0]],
   .tuple ⟨[.slice (some ⟨8, 0, none⟩) 1 18446744073709551616, iP 0]⟩⟩
theorem pb379_ok : pb379.okS EE.G = true := by kernel_rfl
theorem pb379_run : evT EE paT 1000000000 (.call pb379.f pb379.args) pb379.heap (keptK pb379) = some (.bool true) := by kernel_rfl
theorem pb379_h : pb379.holds EE := ent_run envOk paT_holds _ _ pb379_ok pb379_run
-- decani/office.Chief, 12291 steps
noncomputable def pb400 : Ent :=
  ⟨14, [.agg ⟨[iP 6, iP 0, .slice (some ⟨6, 0, none⟩) 2 18446744073709551616, .slice (some ⟨7, 0, none⟩) 1 1, .bool false, .slice none 0 0, .bool false, .slice none 0 0]⟩, iP 0, iP 4], 8,
   gB ++ [(6, .cells true 4 [iP 3, iP 3, iP 1, iP 3, iP 3, iP 1]),
    (7, .cells true 0 [iP 1, iP 1, iP 1])],
   [.cells true 2 [iP 1]],
   .tuple ⟨[.slice (some ⟨8, 0, none⟩) 1 18446744073709551616, iP 0]⟩⟩
theorem pb400_ok : pb400.okS EE.G = true := by kernel_rfl
theorem pb400_run : evT EE paT 1000000000 (.call pb400.f pb400.args) pb400.heap (keptK pb400) = some (.bool true) := by kernel_rfl
theorem pb400_h : pb400.holds EE := ent_run envOk paT_holds _ _ pb400_ok pb400_run
-- decani/office.Falls, 15758 steps
noncomputable def pb421 : Ent :=
  ⟨9, [.agg ⟨[iP 6, iP 0, .slice (some ⟨6, 0, none⟩) 3 18446744073709551616, .slice (some ⟨7, 0, none⟩) 1 1, .bool false, .slice none 0 0, .bool false, .slice none 0 0]⟩, iP 0, iP 0], 8,
   gB ++ [(6, .cells true 4 [iP 1, iP 1, iP 1, iP 1, iP 1, iP 1, iP 1, iP 1, iP 1]),
    (7, .cells true 0 [iP 1, iP 1, iP 1])],
   [],
   .tuple ⟨[.agg ⟨[iP 1, iP 1]⟩, iP 0]⟩⟩
theorem pb421_ok : pb421.okS EE.G = true := by kernel_rfl
theorem pb421_run : evT EE paT 1000000000 (.call pb421.f pb421.args) pb421.heap (keptK pb421) = some (.bool true) := by kernel_rfl
theorem pb421_h : pb421.holds EE := ent_run envOk paT_holds _ _ pb421_ok pb421_run
-- decani/office.Falls, 15911 steps
noncomputable def pb442 : Ent :=
  ⟨9, [.agg ⟨[iP 6, iP 0, .slice (some ⟨6, 0, none⟩) 3 18446744073709551616, .slice (some ⟨7, 0, none⟩) 1 1, .bool false, .slice none 0 0, .bool false, .slice none 0 0]⟩, iP 0, iP 1], 8,
   gB ++ [(6, .cells true 4 [iP 3, iP 3, iP 1, iP 3, iP 3, iP 1, iP 3, iP 3, iP 1]),
    (7, .cells true 0 [iP 1, iP 1, iP 1])],
   [],
   .tuple ⟨[.agg ⟨[iP 4, iP 4]⟩, iP 0]⟩⟩
theorem pb442_ok : pb442.okS EE.G = true := by kernel_rfl
theorem pb442_run : evT EE paT 1000000000 (.call pb442.f pb442.args) pb442.heap (keptK pb442) = some (.bool true) := by kernel_rfl
theorem pb442_h : pb442.holds EE := ent_run envOk paT_holds _ _ pb442_ok pb442_run
-- decani/office.Falls, 19683 steps
noncomputable def pb463 : Ent :=
  ⟨9, [.agg ⟨[iP 6, iP 0, .slice (some ⟨6, 0, none⟩) 4 18446744073709551616, .slice (some ⟨7, 0, none⟩) 1 1, .bool false, .slice none 0 0, .bool false, .slice none 0 0]⟩, iP 0, iP 0], 8,
   gB ++ [(6, .cells true 4 [iP 0, iP 0, iP 1, iP 0, iP 0, iP 1, iP 0, iP 0, iP 1, iP 0, iP 0, iP 1]),
    (7, .cells true 0 [iP 1, iP 1, iP 1])],
   [],
   .tuple ⟨[.agg ⟨[iP 0, iP 0]⟩, iP 0]⟩⟩
theorem pb463_ok : pb463.okS EE.G = true := by kernel_rfl
theorem pb463_run : evT EE paT 1000000000 (.call pb463.f pb463.args) pb463.heap (keptK pb463) = some (.bool true) := by kernel_rfl
theorem pb463_h : pb463.holds EE := ent_run envOk paT_holds _ _ pb463_ok pb463_run
-- decani/office.Falls, 19887 steps
noncomputable def pb484 : Ent :=
  ⟨9, [.agg ⟨[iP 6, iP 0, .slice (some ⟨6, 0, none⟩) 4 18446744073709551616, .slice (some ⟨7, 0, none⟩) 1 1, .bool false, .slice none 0 0, .bool false, .slice none 0 0]⟩, iP 0, iP 3], 8,
   gB ++ [(6, .cells true 4 [iP 1, iP 1, iP 1, iP 1, iP 1, iP 1, iP 1, iP 1, iP 1, iP 1, iP 1, iP 1]),
    (7, .cells true 0 [iP 1, iP 1, iP 1])],
   [],
   .tuple ⟨[.agg ⟨[iP 4, iP 4]⟩, iP 0]⟩⟩
theorem pb484_ok : pb484.okS EE.G = true := by kernel_rfl
theorem pb484_run : evT EE paT 1000000000 (.call pb484.f pb484.args) pb484.heap (keptK pb484) = some (.bool true) := by kernel_rfl
theorem pb484_h : pb484.holds EE := ent_run envOk paT_holds _ _ pb484_ok pb484_run
-- decani/office.Falls, 19850 steps
noncomputable def pb505 : Ent :=
  ⟨9, [.agg ⟨[iP 6, iP 0, .slice (some ⟨6, 0, none⟩) 4 18446744073709551616, .slice (some ⟨7, 0, none⟩) 1 1, .bool false, .slice none 0 0, .bool false, .slice none 0 0]⟩, iP 0, iP 2], 8,
   gB ++ [(6, .cells true 4 [iP 3, iP 3, iP 1, iP 3, iP 3, iP 1, iP 3, iP 3, iP 1, iP 3, iP 3, iP 1]),
    (7, .cells true 0 [iP 1, iP 1, iP 1])],
   [],
   .tuple ⟨[.agg ⟨[iP 5, iP 5]⟩, iP 0]⟩⟩
theorem pb505_ok : pb505.okS EE.G = true := by kernel_rfl
theorem pb505_run : evT EE paT 1000000000 (.call pb505.f pb505.args) pb505.heap (keptK pb505) = some (.bool true) := by kernel_rfl
theorem pb505_h : pb505.holds EE := ent_run envOk paT_holds _ _ pb505_ok pb505_run
-- decani/office.Kept, 17848 steps
noncomputable def pb526 : Ent :=
  ⟨11, [.agg ⟨[iP 6, iP 0, .slice (some ⟨6, 0, none⟩) 4 18446744073709551616, .slice (some ⟨7, 0, none⟩) 1 1, .bool false, .slice none 0 0, .bool false, .slice none 0 0]⟩, iP 0, iP 2], 8,
   gB ++ [(6, .cells true 4 [iP 5, iP 5, iP 1, iP 5, iP 5, iP 1, iP 5, iP 5, iP 1, iP 5, iP 5, iP 1]),
    (7, .cells true 0 [iP 1, iP 1, iP 1])],
   [],
   .tuple ⟨[iP 0, iP 0]⟩⟩
theorem pb526_ok : pb526.okS EE.G = true := by kernel_rfl
theorem pb526_run : evT EE paT 1000000000 (.call pb526.f pb526.args) pb526.heap (keptK pb526) = some (.bool true) := by kernel_rfl
theorem pb526_h : pb526.holds EE := ent_run envOk paT_holds _ _ pb526_ok pb526_run
-- decani/office.Falls, 4994 steps
noncomputable def pb564 : Ent :=
  ⟨9, [.agg ⟨[iP 1, iP 0, .slice (some ⟨6, 0, none⟩) 2 18446744073709551616, .slice (some ⟨7, 0, none⟩) 1 1, .bool false, .slice none 0 0, .bool false, .slice none 0 0]⟩, iP 0, iP 1], 8,
   gB ++ [(6, .cells true 4 [iP 0, iP 0, iP 1, iP 0, iP 0, iP 1]),
    (7, .cells true 0 [iP 1, iP 1, iP 1])],
   [],
   .tuple ⟨[.agg ⟨[iP 0, iP 0]⟩, iP 4]⟩⟩
theorem pb564_ok : pb564.okS EE.G = true := by kernel_rfl
theorem pb564_run : evT EE paT 1000000000 (.call pb564.f pb564.args) pb564.heap (keptK pb564) = some (.bool true) := by kernel_rfl
theorem pb564_h : pb564.holds EE := ent_run envOk paT_holds _ _ pb564_ok pb564_run
-- decani/office.Chief, 4503 steps
noncomputable def pb569 : Ent :=
  ⟨14, [.agg ⟨[iP 2, iP 0, .slice (some ⟨6, 0, none⟩) 1 18446744073709551616, .slice (some ⟨7, 0, none⟩) 1 1, .bool false, .slice none 0 0, .bool false, .slice none 0 0]⟩, iP 0, iP 0], 8,
   gB ++ [(6, .cells true 4 [iP 0, iP 0, iP 1]),
    (7, .cells true 0 [iP 1, iP 1, iP 1])],
   [.cells true 2 [iP 0]],
   .tuple ⟨[.slice (some ⟨8, 0, none⟩) 1 18446744073709551616, iP 0]⟩⟩
theorem pb569_ok : pb569.okS EE.G = true := by kernel_rfl
theorem pb569_run : evT EE paT 1000000000 (.call pb569.f pb569.args) pb569.heap (keptK pb569) = some (.bool true) := by kernel_rfl
theorem pb569_h : pb569.holds EE := ent_run envOk paT_holds _ _ pb569_ok pb569_run
end Go.Proofs.YtmjpnohpmfmdlaaGreatDoor
