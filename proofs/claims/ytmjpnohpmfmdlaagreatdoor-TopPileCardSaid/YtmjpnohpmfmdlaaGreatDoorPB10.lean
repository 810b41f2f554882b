/- Known calls, part 10: what single calls hand back, at small heaps, by the kernel's own run of the evaluator. No conditions. -/
import Derived.Test.YtmjpnohpmfmdlaaGreatDoorPAT
set_option linter.all false
namespace Go.Proofs.YtmjpnohpmfmdlaaGreatDoor
open Go.Ai
set_option maxRecDepth 1000000
-- decani/office.Falls, 8562 steps
noncomputable def pb10 : Ent :=
  ⟨9, [.agg ⟨[iP 1, iP 0, .slice (some ⟨6, 0, none⟩) 4 18446744073709551616, .slice (some ⟨7, 0, none⟩) 1 1, .bool false, .slice none 0 0, .bool false, .slice none 0 0]⟩, iP 0, iP 3], 8,
   gB ++ [(6, .cells true 4 [iP 0, iP 0, iP 1, iP 0, iP 0, iP 1, iP 0, iP 0, iP 1, iP 0, iP 0, iP 1]),
    (7, .cells true 0 [iP 1, iP 1, iP 1])],
   [],
   .tuple ⟨[.agg ⟨[iP 0, iP 0]⟩, iP 4]⟩⟩
theorem pb10_ok : pb10.okS EE.G = true := by kernel_rfl
theorem pb10_run : evT EE paT 1000000000 (.call pb10.f pb10.args) pb10.heap (keptK pb10) = some (.bool true) := by kernel_rfl
theorem pb10_h : pb10.holds EE := ent_run envOk paT_holds _ _ pb10_ok pb10_run
-- decani/office.Kept, 11658 steps
noncomputable def pb31 : Ent :=
  ⟨11, [.agg ⟨[iP 2, iP 0, .slice (some ⟨6, 0, none⟩) 4 18446744073709551616, .slice (some ⟨7, 0, none⟩) 1 1, .bool false, .slice none 0 0, .bool false, .slice none 0 0]⟩, iP 0, iP 1], 8,
   gB ++ [(6, .cells true 4 [iP 0, iP 0, iP 1, iP 0, iP 0, iP 1, iP 0, iP 0, iP 1, iP 0, iP 0, iP 1]),
    (7, .cells true 0 [iP 1, iP 1, iP 1])],
   [],
   .tuple ⟨[iP 2, iP 0]⟩⟩
theorem pb31_ok : pb31.okS EE.G = true := by kernel_rfl
theorem pb31_run : evT EE paT 1000000000 (.call pb31.f pb31.args) pb31.heap (keptK pb31) = some (.bool true) := by kernel_rfl
theorem pb31_h : pb31.holds EE := ent_run envOk paT_holds _ _ pb31_ok pb31_run
-- decani/office.Falls, 8068 steps
noncomputable def pb52 : Ent :=
  ⟨9, [.agg ⟨[iP 3, iP 0, .slice (some ⟨6, 0, none⟩) 2 18446744073709551616, .slice (some ⟨7, 0, none⟩) 1 1, .bool false, .slice none 0 0, .bool false, .slice none 0 0]⟩, iP 0, iP 0], 8,
   gB ++ [(6, .cells true 4 [iP 1, iP 1, iP 1, iP 1, iP 1, iP 1]),
    (7, .cells true 0 [iP 1, iP 1, iP 1])],
   [],
   .tuple ⟨[.agg ⟨[iP 1, iP 1]⟩, iP 0]⟩⟩
theorem pb52_ok : pb52.okS EE.G = true := by kernel_rfl
theorem pb52_run : evT EE paT 1000000000 (.call pb52.f pb52.args) pb52.heap (keptK pb52) = some (.bool true) := by kernel_rfl
theorem pb52_h : pb52.holds EE := ent_run envOk paT_holds _ _ pb52_ok pb52_run
-- decani/office.Kept, 10724 steps
noncomputable def pb73 : Ent :=
  ⟨11, [.agg ⟨[iP 3, iP 0, .slice (some ⟨6, 0, none⟩) 3 18446744073709551616, .slice (some ⟨7, 0, none⟩) 1 1, .bool false, .slice none 0 0, .bool false, .slice none 0 0]⟩, iP 0, iP 0], 8,
   gB ++ [(6, .cells true 4 [iP 1, iP 1, iP 1, iP 1, iP 1, iP 1, iP 1, iP 1, iP 1]),
    (7, .cells true 0 [iP 1, iP 1, iP 1])],
   [],
   .tuple ⟨[iP 2, iP 0]⟩⟩
theorem pb73_ok : pb73.okS EE.G = true := by kernel_rfl
theorem pb73_run : evT EE paT 1000000000 (.call pb73.f pb73.args) pb73.heap (keptK pb73) = some (.bool true) := by kernel_rfl
theorem pb73_h : pb73.holds EE := ent_run envOk paT_holds _ _ pb73_ok pb73_run
-- decani/office.Kept, 14187 steps
noncomputable def pb94 : Ent :=
  ⟨11, [.agg ⟨[iP 3, iP 0, .slice (some ⟨6, 0, none⟩) 4 18446744073709551616, .slice (some ⟨7, 0, none⟩) 1 1, .bool false, .slice none 0 0, .bool false, .slice none 0 0]⟩, iP 0, iP 2], 8,
   gB ++ [(6, .cells true 4 [iP 0, iP 0, iP 1, iP 0, iP 0, iP 1, iP 0, iP 0, iP 1, iP 0, iP 0, iP 1]),
    (7, .cells true 0 [iP 1, iP 1, iP 1])],
   [],
   .tuple ⟨[iP 2, iP 0]⟩⟩
theorem pb94_ok : pb94.okS EE.G = true := by kernel_rfl
theorem pb94_run : evT EE paT 1000000000 (.call pb94.f pb94.args) pb94.heap (keptK pb94) = some (.bool true) := by kernel_rfl
theorem pb94_h : pb94.holds EE := ent_run envOk paT_holds _ _ pb94_ok pb94_run
-- decani/office.Falls, 12280 steps
noncomputable def pb115 : Ent :=
  ⟨9, [.agg ⟨[iP 3, iP 0, .slice (some ⟨6, 0, none⟩) 4 18446744073709551616, .slice (some ⟨7, 0, none⟩) 1 1, .bool false, .slice none 0 0, .bool false, .slice none 0 0]⟩, iP 0, iP 3], 8,
   gB ++ [(6, .cells true 4 [iP 2, iP 2, iP 1, iP 2, iP 2, iP 1, iP 2, iP 2, iP 1, iP 2, iP 2, iP 1]),
    (7, .cells true 0 [iP 1, iP 1, iP 1])],
   [],
   .tuple ⟨[.agg ⟨[iP 0, iP 0]⟩, iP 4]⟩⟩
theorem pb115_ok : pb115.okS EE.G = true := by kernel_rfl
theorem pb115_run : evT EE paT 1000000000 (.call pb115.f pb115.args) pb115.heap (keptK pb115) = some (.bool true) := by kernel_rfl
theorem pb115_h : pb115.holds EE := ent_run envOk paT_holds _ _ pb115_ok pb115_run
-- decani/office.Kept, 9465 steps
noncomputable def pb136 : Ent :=
  ⟨11, [.agg ⟨[iP 4, iP 0, .slice (some ⟨6, 0, none⟩) 2 18446744073709551616, .slice (some ⟨7, 0, none⟩) 1 1, .bool false, .slice none 0 0, .bool false, .slice none 0 0]⟩, iP 0, iP 0], 8,
   gB ++ [(6, .cells true 4 [iP 2, iP 2, iP 1, iP 2, iP 2, iP 1]),
    (7, .cells true 0 [iP 1, iP 1, iP 1])],
   [],
   .tuple ⟨[iP 2, iP 0]⟩⟩
theorem pb136_ok : pb136.okS EE.G = true := by kernel_rfl
theorem pb136_run : evT EE paT 1000000000 (.call pb136.f pb136.args) pb136.heap (keptK pb136) = some (.bool true) := by kernel_rfl
theorem pb136_h : pb136.holds EE := ent_run envOk paT_holds _ _ pb136_ok pb136_run
-- decani/office.Chief, 12445 steps
noncomputable def pb157 : Ent :=
  ⟨14, [.agg ⟨[iP 4, iP 0, .slice (some ⟨6, 0, none⟩) 3 18446744073709551616, .slice (some ⟨7, 0, none⟩) 1 1, .bool false, .slice none 0 0, .bool false, .slice none 0 0]⟩, iP 0, iP 1], 8,
   gB ++ [(6, .cells true 4 [iP 1, iP 1, iP 1, iP 1, iP 1, iP 1, iP 1, iP 1, iP 1]),
    (7, .cells true 0 [iP 1, iP 1, iP 1])],
   [.cells true 2 [iP 0]],
   .tuple ⟨[.slice (some ⟨8, 0, none⟩) 1 18446744073709551616, iP 0]⟩⟩
theorem pb157_ok : pb157.okS EE.G = true := by kernel_rfl
theorem pb157_run : evT EE paT 1000000000 (.call pb157.f pb157.args) pb157.heap (keptK pb157) = some (.bool true) := by kernel_rfl
theorem pb157_h : pb157.holds EE := ent_run envOk paT_holds _ _ pb157_ok pb157_run
-- decani/office.Kept, 11782 steps
noncomputable def pb178 : Ent :=
  ⟨11, [.agg ⟨[iP 4, iP 0, .slice (some ⟨6, 0, none⟩) 3 18446744073709551616, .slice (some ⟨7, 0, none⟩) 1 1, .bool false, .slice none 0 0, .bool false, .slice none 0 0]⟩, iP 0, iP 2], 8,
   gB ++ [(6, .cells true 4 [iP 3, iP 3, iP 1, iP 3, iP 3, iP 1, iP 3, iP 3, iP 1]),
    (7, .cells true 0 [iP 1, iP 1, iP 1])],
   [],
   .tuple ⟨[iP 0, iP 0]⟩⟩
theorem pb178_ok : pb178.okS EE.G = true := by kernel_rfl
theorem pb178_run : evT EE paT 1000000000 (.call pb178.f pb178.args) pb178.heap (keptK pb178) = some (.bool true) := by kernel_rfl
theorem pb178_h : pb178.holds EE := ent_run envOk paT_holds _ _ pb178_ok pb178_run
-- decani/office.Chief, 15957 steps
noncomputable def pb199 : Ent :=
  ⟨14, [.agg ⟨[iP 4, iP 0, .slice (some ⟨6, 0, none⟩) 4 18446744073709551616, .slice (some ⟨7, 0, none⟩) 1 1, .bool false, .slice none 0 0, .bool false, .slice none 0 0]⟩, iP 0, iP 3], 8,
   gB ++ [(6, .cells true 4 [iP 1, iP 1, iP 1, iP 1, iP 1, iP 1, iP 1, iP 1, iP 1, iP 1, iP 1, iP 1]),
    (7, .cells true 0 [iP 1, iP 1, iP 1])],
   [.cells true 2 [iP 2]],
   .tuple ⟨[.slice (some ⟨8, 0, none⟩) 1 18446744073709551616, iP 0]⟩⟩
theorem pb199_ok : pb199.okS EE.G = true := by kernel_rfl
theorem pb199_run : evT EE paT 1000000000 (.call pb199.f pb199.args) pb199.heap (keptK pb199) = some (.bool true) := by kernel_rfl
theorem pb199_h : pb199.holds EE := ent_run envOk paT_holds _ _ pb199_ok pb199_run
-- decani/office.Kept, 14130 steps
noncomputable def pb220 : Ent :=
  ⟨11, [.agg ⟨[iP 4, iP 0, .slice (some ⟨6, 0, none⟩) 4 18446744073709551616, .slice (some ⟨7, 0, none⟩) 1 1, .bool false, .slice none 0 0, .bool false, .slice none 0 0]⟩, iP 0, iP 3], 8,
   gB ++ [(6, .cells true 4 [iP 3, iP 3, iP 1, iP 3, iP 3, iP 1, iP 3, iP 3, iP 1, iP 3, iP 3, iP 1]),
    (7, .cells true 0 [iP 1, iP 1, iP 1])],
   [],
   .tuple ⟨[iP 0, iP 0]⟩⟩
theorem pb220_ok : pb220.okS EE.G = true := by kernel_rfl
theorem pb220_run : evT EE paT 1000000000 (.call pb220.f pb220.args) pb220.heap (keptK pb220) = some (.bool true) := by kernel_rfl
theorem pb220_h : pb220.holds EE := ent_run envOk paT_holds _ _ pb220_ok pb220_run
-- decani/office.Chief, 10859 steps
noncomputable def pb241 : Ent :=
  ⟨14, [.agg ⟨[iP 5, iP 0, .slice (some ⟨6, 0, none⟩) 2 18446744073709551616, .slice (some ⟨7, 0, none⟩) 1 1, .bool false, .slice none 0 0, .bool false, .slice none 0 0]⟩, iP 0, iP 1], 8,
   gB ++ [(6, .cells true 4 [iP 0, iP 0, iP 1, iP 0, iP 0, iP 1]),
    (7, .cells true 0 [iP 1, iP 1, iP 1])],
   [.cells true 2 [iP 1]],
   .tuple ⟨[.slice (some ⟨8, 0, none⟩) 1 18446744073709551616, iP 0]⟩⟩
theorem pb241_ok : pb241.okS EE.G = true := by kernel_rfl
theorem pb241_run : evT EE paT 1000000000 (.call pb241.f pb241.args) pb241.heap (keptK pb241) = some (.bool true) := by kernel_rfl
theorem pb241_h : pb241.holds EE := ent_run envOk paT_holds _ _ pb241_ok pb241_run
-- decani/office.Chief, 10771 steps
noncomputable def pb262 : Ent :=
  ⟨14, [.agg ⟨[iP 5, iP 0, .slice (some ⟨6, 0, none⟩) 2 18446744073709551616, .slice (some ⟨7, 0, none⟩) 1 1, .bool false, .slice none 0 0, .bool false, .slice none 0 0]⟩, iP 0, iP 4], 8,
   gB ++ [(6, .cells true 4 [iP 4, iP 4, iP 1, iP 4, iP 4, iP 1]),
    (7, .cells true 0 [iP 1, iP 1, iP 1])],
   [.cells true 2 [iP 0]],
   .tuple ⟨[.slice (some ⟨8, 0, none⟩) 1 18446744073709551616, iP 0]⟩⟩
theorem pb262_ok : pb262.okS EE.G = true := by kernel_rfl
theorem pb262_run : evT EE paT 1000000000 (.call pb262.f pb262.args) pb262.heap (keptK pb262) = some (.bool true) := by kernel_rfl
theorem pb262_h : pb262.holds EE := ent_run envOk paT_holds _ _ pb262_ok pb262_run
-- decani/office.Chief, 14065 steps
noncomputable def pb283 : Ent :=
  ⟨14, [.agg ⟨[iP 5, iP 0, .slice (some ⟨6, 0, none⟩) 3 18446744073709551616, .slice (some ⟨7, 0, none⟩) 1 1, .bool false, .slice none 0 0, .bool false, .slice none 0 0]⟩, iP 0, iP 2], 8,
   gB ++ [(6, .cells true 4 [iP 2, iP 2, iP 1, iP 2, iP 2, iP 1, iP 2, iP 2, iP 1]),
    (7, .cells true 0 [iP 1, iP 1, iP 1])],
   [.cells true 2 [iP 0]],
   .tuple ⟨[.slice (some ⟨8, 0, none⟩) 1 18446744073709551616, iP 0]⟩⟩
theorem pb283_ok : pb283.okS EE.G = true := by kernel_rfl
theorem pb283_run : evT EE paT 1000000000 (.call pb283.f pb283.args) pb283.heap (keptK pb283) = some (.bool true) := by kernel_rfl
theorem pb283_h : pb283.holds EE := ent_run envOk paT_holds _ _ pb283_ok pb283_run
-- decani/office.Kept, 13453 steps
noncomputable def pb304 : Ent :=
  ⟨11, [.agg ⟨[iP 5, iP 0, .slice (some ⟨6, 0, none⟩) 3 18446744073709551616, .slice (some ⟨7, 0, none⟩) 1 1, .bool false, .slice none 0 0, .bool false, .slice none 0 0]⟩, iP 0, iP 2], 8,
   gB ++ [(6, .cells true 4 [iP 4, iP 4, iP 1, iP 4, iP 4, iP 1, iP 4, iP 4, iP 1]),
    (7, .cells true 0 [iP 1, iP 1, iP 1])],
   [],
   .tuple ⟨[iP 0, iP 0]⟩⟩
theorem pb304_ok : pb304.okS EE.G = true := by kernel_rfl
theorem pb304_run : evT EE paT 1000000000 (.call pb304.f pb304.args) pb304.heap (keptK pb304) = some (.bool true) := by kernel_rfl
theorem pb304_h : pb304.holds EE := ent_run envOk paT_holds _ _ pb304_ok pb304_run
-- decani/office.Chief, 17853 steps
noncomputable def pb325 : Ent :=
  ⟨14, [.agg ⟨[iP 5, iP 0, .slice (some ⟨6, 0, none⟩) 4 18446744073709551616, .slice (some ⟨7, 0, none⟩) 1 1, .bool false, .slice none 0 0, .bool false, .slice none 0 0]⟩, iP 0, iP 3], 8,
   gB ++ [(6, .cells true 4 [iP 1, iP 1, iP 1, iP 1, iP 1, iP 1, iP 1, iP 1, iP 1, iP 1, iP 1, iP 1]),
    (7, .cells true 0 [iP 1, iP 1, iP 1])],
   [.cells true 2 [iP 2]],
   .tuple ⟨[.slice (some ⟨8, 0, none⟩) 1 18446744073709551616, iP 0]⟩⟩
theorem pb325_ok : pb325.okS EE.G = true := by kernel_rfl
theorem pb325_run : evT EE paT 1000000000 (.call pb325.f pb325.args) pb325.heap (keptK pb325) = some (.bool true) := by kernel_rfl
theorem pb325_h : pb325.holds EE := ent_run envOk paT_holds _ _ pb325_ok pb325_run
-- decani/office.Falls, 17250 steps
noncomputable def pb346 : Ent :=
  ⟨9, [.agg ⟨[iP 5, iP 0, .slice (some ⟨6, 0, none⟩) 4 18446744073709551616, .slice (some ⟨7, 0, none⟩) 1 1, .bool false, .slice none 0 0, .bool false, .slice none 0 0]⟩, iP 0, iP 2], 8,
   gB ++ [(6, .cells true 4 [iP 3, iP 3, iP 1, iP 3, iP 3, iP 1, iP 3, iP 3, iP 1, iP 3, iP 3, iP 1]),
    (7, .cells true 0 [iP 1, iP 1, iP 1])],
   [],
   .tuple ⟨[.agg ⟨[iP 0, iP 0]⟩, iP 4]⟩⟩
theorem pb346_ok : pb346.okS EE.G = true := by kernel_rfl
theorem pb346_run : evT EE paT 1000000000 (.call pb346.f pb346.args) pb346.heap (keptK pb346) = some (.bool true) := by kernel_rfl
theorem pb346_h : pb346.holds EE := ent_run envOk paT_holds _ _ pb346_ok pb346_run
-- decani/office.Chief, 9479 steps
noncomputable def pb367 : Ent :=
  ⟨14, [.agg ⟨[iP 6, iP 0, .slice (some ⟨6, 0, none⟩) 1 18446744073709551616, .slice (some ⟨7, 0, none⟩) 1 1, .bool false, .slice none 0 0, .bool false, .slice none 0 0]⟩, iP 0, iP 2], 8,
   gB ++ [(6, .cells true 4 [iP 2, iP 2, iP 1]),
    (7, .cells true 0 [iP 1, iP 1, iP 1])],
   [.cells true 2 [iP 0]],
   .tuple ⟨[.slice (some ⟨8, 0, none⟩) 1 18446744073709551616, iP 0]⟩⟩
theorem pb367_ok : pb367.okS EE.G = true := by kernel_rfl
theorem pb367_run : evT EE paT 1000000000 (.call pb367.f pb367.args) pb367.heap (keptK pb367) = some (.bool true) := by kernel_rfl
theorem pb367_h : pb367.holds EE := ent_run envOk paT_holds _ _ pb367_ok pb367_run
-- decani/office.Chief, 12291 steps
noncomputable def pb388 : Ent :=
  ⟨14, [.agg ⟨[iP 6, iP 0, .slice (some ⟨6, 0, none⟩) 2 18446744073709551616, .slice (some ⟨7, 0, none⟩) 1 1, .bool false, .slice none 0 0, .bool false, .slice none 0 0]⟩, iP 0, iP 2], 8,
   gB ++ [(6, .cells true 4 [iP 1, iP 1, iP 1, iP 1, iP 1, iP 1]),
    (7, .cells true 0 [iP 1, iP 1, iP 1])],
   [.cells true 2 [iP 1]],
   .tuple ⟨[.slice (some ⟨8, 0, none⟩) 1 18446744073709551616, iP 0]⟩⟩
theorem pb388_ok : pb388.okS EE.G = true := by kernel_rfl
theorem pb388_run : evT EE paT 1000000000 (.call pb388.f pb388.args) pb388.heap (keptK pb388) = some (.bool true) := by kernel_rfl
theorem pb388_h : pb388.holds EE := ent_run envOk paT_holds _ _ pb388_ok pb388_run
-- decani/office.Chief, 12203 steps
noncomputable def pb409 : Ent :=
  ⟨14, [.agg ⟨[iP 6, iP 0, .slice (some ⟨6, 0, none⟩) 2 18446744073709551616, .slice (some ⟨7, 0, none⟩) 1 1, .bool false, .slice none 0 0, .bool false, .slice none 0 0]⟩, iP 0, iP 5], 8,
   gB ++ [(6, .cells true 4 [iP 5, iP 5, iP 1, iP 5, iP 5, iP 1]),
    (7, .cells true 0 [iP 1, iP 1, iP 1])],
   [.cells true 2 [iP 0]],
   .tuple ⟨[.slice (some ⟨8, 0, none⟩) 1 18446744073709551616, iP 0]⟩⟩
theorem pb409_ok : pb409.okS EE.G = true := by kernel_rfl
theorem pb409_run : evT EE paT 1000000000 (.call pb409.f pb409.args) pb409.heap (keptK pb409) = some (.bool true) := by kernel_rfl
theorem pb409_h : pb409.holds EE := ent_run envOk paT_holds _ _ pb409_ok pb409_run
-- decani/office.Falls, 15809 steps
noncomputable def pb430 : Ent :=
  ⟨9, [.agg ⟨[iP 6, iP 0, .slice (some ⟨6, 0, none⟩) 3 18446744073709551616, .slice (some ⟨7, 0, none⟩) 1 1, .bool false, .slice none 0 0, .bool false, .slice none 0 0]⟩, iP 0, iP 0], 8,
   gB ++ [(6, .cells true 4 [iP 2, iP 2, iP 1, iP 2, iP 2, iP 1, iP 2, iP 2, iP 1]),
    (7, .cells true 0 [iP 1, iP 1, iP 1])],
   [],
   .tuple ⟨[.agg ⟨[iP 2, iP 2]⟩, iP 0]⟩⟩
theorem pb430_ok : pb430.okS EE.G = true := by kernel_rfl
theorem pb430_run : evT EE paT 1000000000 (.call pb430.f pb430.args) pb430.heap (keptK pb430) = some (.bool true) := by kernel_rfl
theorem pb430_h : pb430.holds EE := ent_run envOk paT_holds _ _ pb430_ok pb430_run
-- decani/office.Falls, 15874 steps
noncomputable def pb451 : Ent :=
  ⟨9, [.agg ⟨[iP 6, iP 0, .slice (some ⟨6, 0, none⟩) 3 18446744073709551616, .slice (some ⟨7, 0, none⟩) 1 1, .bool false, .slice none 0 0, .bool false, .slice none 0 0]⟩, iP 0, iP 1], 8,
   gB ++ [(6, .cells true 4 [iP 4, iP 4, iP 1, iP 4, iP 4, iP 1, iP 4, iP 4, iP 1]),
    (7, .cells true 0 [iP 1, iP 1, iP 1])],
   [],
   .tuple ⟨[.agg ⟨[iP 5, iP 5]⟩, iP 0]⟩⟩
theorem pb451_ok : pb451.okS EE.G = true := by kernel_rfl
theorem pb451_run : evT EE paT 1000000000 (.call pb451.f pb451.args) pb451.heap (keptK pb451) = some (.bool true) := by kernel_rfl
theorem pb451_h : pb451.holds EE := ent_run envOk paT_holds _ _ pb451_ok pb451_run
-- decani/office.Falls, 19836 steps
noncomputable def pb472 : Ent :=
  ⟨9, [.agg ⟨[iP 6, iP 0, .slice (some ⟨6, 0, none⟩) 4 18446744073709551616, .slice (some ⟨7, 0, none⟩) 1 1, .bool false, .slice none 0 0, .bool false, .slice none 0 0]⟩, iP 0, iP 3], 8,
   gB ++ [(6, .cells true 4 [iP 0, iP 0, iP 1, iP 0, iP 0, iP 1, iP 0, iP 0, iP 1, iP 0, iP 0, iP 1]),
    (7, .cells true 0 [iP 1, iP 1, iP 1])],
   [],
   .tuple ⟨[.agg ⟨[iP 3, iP 3]⟩, iP 0]⟩⟩
theorem pb472_ok : pb472.okS EE.G = true := by kernel_rfl
theorem pb472_run : evT EE paT 1000000000 (.call pb472.f pb472.args) pb472.heap (keptK pb472) = some (.bool true) := by kernel_rfl
theorem pb472_h : pb472.holds EE := ent_run envOk paT_holds _ _ pb472_ok pb472_run
-- decani/office.Falls, 19887 steps
noncomputable def pb493 : Ent :=
  ⟨9, [.agg ⟨[iP 6, iP 0, .slice (some ⟨6, 0, none⟩) 4 18446744073709551616, .slice (some ⟨7, 0, none⟩) 1 1, .bool false, .slice none 0 0, .bool false, .slice none 0 0]⟩, iP 0, iP 2], 8,
   gB ++ [(6, .cells true 4 [iP 2, iP 2, iP 1, iP 2, iP 2, iP 1, iP 2, iP 2, iP 1, iP 2, iP 2, iP 1]),
    (7, .cells true 0 [iP 1, iP 1, iP 1])],
   [],
   .tuple ⟨[.agg ⟨[iP 4, iP 4]⟩, iP 0]⟩⟩
theorem pb493_ok : pb493.okS EE.G = true := by kernel_rfl
theorem pb493_run : evT EE paT 1000000000 (.call pb493.f pb493.args) pb493.heap (keptK pb493) = some (.bool true) := by kernel_rfl
theorem pb493_h : pb493.holds EE := ent_run envOk paT_holds _ _ pb493_ok pb493_run
-- decani/office.Kept, 19094 steps
noncomputable def pb514 : Ent :=
  ⟨11, [.agg ⟨[iP 6, iP 0, .slice (some ⟨6, 0, none⟩) 4 18446744073709551616, .slice (some ⟨7, 0, none⟩) 1 1, .bool false, .slice none 0 0, .bool false, .slice none 0 0]⟩, iP 0, iP 1], 8,
   gB ++ [(6, .cells true 4 [iP 4, iP 4, iP 1, iP 4, iP 4, iP 1, iP 4, iP 4, iP 1, iP 4, iP 4, iP 1]),
    (7, .cells true 0 [iP 1, iP 1, iP 1])],
   [],
   .tuple ⟨[iP 2, iP 0]⟩⟩
theorem pb514_ok : pb514.okS EE.G = true := by kernel_rfl
theorem pb514_run : evT EE paT 1000000000 (.call pb514.f pb514.args) pb514.heap (keptK pb514) = some (.bool true) := by kernel_rfl
theorem pb514_h : pb514.holds EE := ent_run envOk paT_holds _ _ pb514_ok pb514_run
-- decani/office.Falls, 6849 steps
noncomputable def pb535 : Ent :=
  ⟨9, [.agg ⟨[iP 1, iP 0, .slice (some ⟨6, 0, none⟩) 3 18446744073709551616, .slice (some ⟨7, 0, none⟩) 1 1, .bool false, .slice none 0 0, .bool false, .slice none 0 0]⟩, iP 0, iP 0], 8,
   gB ++ [(6, .cells true 4 [iP 0, iP 0, iP 1, iP 0, iP 0, iP 1, iP 0, iP 0, iP 1]),
    (7, .cells true 0 [iP 1, iP 1, iP 1])],
   [],
   .tuple ⟨[.agg ⟨[iP 0, iP 0]⟩, iP 0]⟩⟩
theorem pb535_ok : pb535.okS EE.G = true := by kernel_rfl
theorem pb535_run : evT EE paT 1000000000 (.call pb535.f pb535.args) pb535.heap (keptK pb535) = some (.bool true) := by kernel_rfl
theorem pb535_h : pb535.holds EE := ent_run envOk paT_holds _ _ pb535_ok pb535_run
-- decani/office.Falls, 5769 steps
noncomputable def pb556 : Ent :=
  ⟨9, [.agg ⟨[iP 3, iP 0, .slice (some ⟨6, 0, none⟩) 1 18446744073709551616, .slice (some ⟨7, 0, none⟩) 1 1, .bool false, .slice none 0 0, .bool false, .slice none 0 0]⟩, iP 0, iP 0], 8,
   gB ++ [(6, .cells true 4 [iP 0, iP 0, iP 1]),
    (7, .cells true 0 [iP 1, iP 1, iP 1])],
   [],
   .tuple ⟨[.agg ⟨[iP 0, iP 0]⟩, iP 0]⟩⟩
theorem pb556_ok : pb556.okS EE.G = true := by kernel_rfl
theorem pb556_run : evT EE paT 1000000000 (.call pb556.f pb556.args) pb556.heap (keptK pb556) = some (.bool true) := by kernel_rfl
theorem pb556_h : pb556.holds EE := ent_run envOk paT_holds _ _ pb556_ok pb556_run
-- decani/office.Chief, 3259 steps
noncomputable def pb574 : Ent :=
  ⟨14, [.agg ⟨[iP 1, iP 0, .slice (some ⟨6, 0, none⟩) 1 18446744073709551616, .slice (some ⟨7, 0, none⟩) 1 1, .bool false, .slice none 0 0, .bool false, .slice none 0 0]⟩, iP 0, iP 0], 8,
   gB ++ [(6, .cells true 4 [iP 0, iP 0, iP 1]),
    (7, .cells true 0 [iP 1, iP 1, iP 1])],
   [.cells true 2 [iP 0]],
   .tuple ⟨[.slice (some ⟨8, 0, none⟩) 1 18446744073709551616, iP 0]⟩⟩
theorem pb574_ok : pb574.okS EE.G = true := by kernel_rfl
theorem pb574_run : evT EE paT 1000000000 (.call pb574.f pb574.args) pb574.heap (keptK pb574) = some (.bool true) := by kernel_rfl
theorem pb574_h : pb574.holds EE := ent_run envOk paT_holds _ _ pb574_ok pb574_run
end Go.Proofs.YtmjpnohpmfmdlaaGreatDoor
