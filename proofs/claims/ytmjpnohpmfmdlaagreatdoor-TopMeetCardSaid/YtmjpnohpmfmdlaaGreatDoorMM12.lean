/- Known calls, part 12: what single calls hand back, at small heaps, by the kernel's own run of the evaluator. No conditions. -/
import Derived.Test.YtmjpnohpmfmdlaaGreatDoorEnv
set_option linter.all false
namespace Go.Proofs.YtmjpnohpmfmdlaaGreatDoor
open Go.Ai
set_option maxRecDepth 1000000
-- decani/office.Fits, 18167 steps
noncomputable def mm12 : Ent :=
  ⟨24, [.agg ⟨[iP 6, iP 0, .slice (some ⟨6, 0, none⟩) 2 2, .slice none 0 0, .bool false, .slice none 0 0, .bool false, .slice none 0 0]⟩, .agg ⟨[iP 0, iP 5, iP 1]⟩], 7,
   gB ++ [(6, .cells true 0 [iP 0, iP 1, iP 2, iP 1, iP 2, iP 2])],
   [],
   .tuple ⟨[.bool false, iP 0]⟩⟩
theorem mm12_ok : mm12.okS EE.G = true := by kernel_rfl
theorem mm12_run : evT EE [] 1000000000 (.call mm12.f mm12.args) mm12.heap (keptK mm12) = some (.bool true) := by kernel_rfl
theorem mm12_h : mm12.holds EE := ent_run envOk (fun _ h => by cases h) _ _ mm12_ok mm12_run
-- decani/office.Kept, 16282 steps
noncomputable def mm41 : Ent :=
  ⟨11, [.agg ⟨[iP 6, iP 0, .slice (some ⟨6, 0, none⟩) 2 2, .slice none 0 0, .bool false, .slice none 0 0, .bool false, .slice none 0 0]⟩, iP 0, iP 1], 7,
   gB ++ [(6, .cells true 0 [iP 0, iP 0, iP 2, iP 1, iP 2, iP 2])],
   [],
   .tuple ⟨[iP 2, iP 0]⟩⟩
theorem mm41_ok : mm41.okS EE.G = true := by kernel_rfl
theorem mm41_run : evT EE [] 1000000000 (.call mm41.f mm41.args) mm41.heap (keptK mm41) = some (.bool true) := by kernel_rfl
theorem mm41_h : mm41.holds EE := ent_run envOk (fun _ h => by cases h) _ _ mm41_ok mm41_run
-- decani/office.Fits, 12039 steps
noncomputable def mm71 : Ent :=
  ⟨24, [.agg ⟨[iP 6, iP 0, .slice (some ⟨6, 0, none⟩) 2 2, .slice none 0 0, .bool false, .slice none 0 0, .bool false, .slice none 0 0]⟩, .agg ⟨[iP 0, iP 5, iP 1]⟩], 7,
   gB ++ [(6, .cells true 0 [iP 0, iP 0, iP 2, iP 1, iP 2, iP 2])],
   [],
   .tuple ⟨[.bool false, iP 0]⟩⟩
theorem mm71_ok : mm71.okS EE.G = true := by kernel_rfl
theorem mm71_run : evT EE [] 1000000000 (.call mm71.f mm71.args) mm71.heap (keptK mm71) = some (.bool true) := by kernel_rfl
theorem mm71_h : mm71.holds EE := ent_run envOk (fun _ h => by cases h) _ _ mm71_ok mm71_run
-- decani/office.Kept, 11915 steps
noncomputable def mm94 : Ent :=
  ⟨11, [.agg ⟨[iP 6, iP 0, .slice (some ⟨6, 0, none⟩) 2 2, .slice none 0 0, .bool false, .slice none 0 0, .bool false, .slice none 0 0]⟩, iP 0, iP 0], 7,
   gB ++ [(6, .cells true 0 [iP 0, iP 0, iP 2, iP 0, iP 0, iP 2])],
   [],
   .tuple ⟨[iP 2, iP 0]⟩⟩
theorem mm94_ok : mm94.okS EE.G = true := by kernel_rfl
theorem mm94_run : evT EE [] 1000000000 (.call mm94.f mm94.args) mm94.heap (keptK mm94) = some (.bool true) := by kernel_rfl
theorem mm94_h : mm94.holds EE := ent_run envOk (fun _ h => by cases h) _ _ mm94_ok mm94_run
-- decani/office.Fits, 9332 steps
noncomputable def mm124 : Ent :=
  ⟨24, [.agg ⟨[iP 6, iP 0, .slice (some ⟨6, 0, none⟩) 2 2, .slice none 0 0, .bool false, .slice none 0 0, .bool false, .slice none 0 0]⟩, .agg ⟨[iP 0, iP 4, iP 1]⟩], 7,
   gB ++ [(6, .cells true 0 [iP 2, iP 2, iP 2, iP 2, iP 2, iP 2])],
   [],
   .tuple ⟨[.bool false, iP 0]⟩⟩
theorem mm124_ok : mm124.okS EE.G = true := by kernel_rfl
theorem mm124_run : evT EE [] 1000000000 (.call mm124.f mm124.args) mm124.heap (keptK mm124) = some (.bool true) := by kernel_rfl
theorem mm124_h : mm124.holds EE := ent_run envOk (fun _ h => by cases h) _ _ mm124_ok mm124_run
-- decani/office.Fits, 8084 steps
noncomputable def mm142 : Ent :=
  ⟨24, [.agg ⟨[iP 6, iP 0, .slice (some ⟨6, 0, none⟩) 2 2, .slice none 0 0, .bool false, .slice none 0 0, .bool false, .slice none 0 0]⟩, .agg ⟨[iP 0, iP 1, iP 1]⟩], 7,
   gB ++ [(6, .cells true 0 [iP 1, iP 1, iP 2, iP 1, iP 1, iP 2])],
   [],
   .tuple ⟨[.bool false, iP 0]⟩⟩
theorem mm142_ok : mm142.okS EE.G = true := by kernel_rfl
theorem mm142_run : evT EE [] 1000000000 (.call mm142.f mm142.args) mm142.heap (keptK mm142) = some (.bool true) := by kernel_rfl
theorem mm142_h : mm142.holds EE := ent_run envOk (fun _ h => by cases h) _ _ mm142_ok mm142_run
-- decani/office.Fits, 6477 steps
noncomputable def mm182 : Ent :=
  ⟨24, [.agg ⟨[iP 6, iP 0, .slice (some ⟨6, 0, none⟩) 2 2, .slice none 0 0, .bool false, .slice none 0 0, .bool false, .slice none 0 0]⟩, .agg ⟨[iP 0, iP 0, iP 1]⟩], 7,
   gB ++ [(6, .cells true 0 [iP 0, iP 0, iP 2, iP 1, iP 2, iP 2])],
   [],
   .tuple ⟨[.bool false, iP 0]⟩⟩
theorem mm182_ok : mm182.okS EE.G = true := by kernel_rfl
theorem mm182_run : evT EE [] 1000000000 (.call mm182.f mm182.args) mm182.heap (keptK mm182) = some (.bool true) := by kernel_rfl
theorem mm182_h : mm182.holds EE := ent_run envOk (fun _ h => by cases h) _ _ mm182_ok mm182_run
-- decani/part.Notes, 4337 steps
noncomputable def mm208 : Ent :=
  ⟨25, [.agg ⟨[iP 1, .slice (some ⟨6, 0, none⟩) 2 2, iP 0, iP 254, iP 0, .slice none 0 0]⟩, iP 1, iP 0], 7,
   gB ++ [(6, .cells true 0 [iP 2, iP 3, iP 3, iP 3])],
   [.cells true 2 [iP 3]],
   .tuple ⟨[.slice (some ⟨7, 0, none⟩) 1 18446744073709551616, iP 0]⟩⟩
theorem mm208_ok : mm208.okS EE.G = true := by kernel_rfl
theorem mm208_run : evT EE [] 1000000000 (.call mm208.f mm208.args) mm208.heap (keptK mm208) = some (.bool true) := by kernel_rfl
theorem mm208_h : mm208.holds EE := ent_run envOk (fun _ h => by cases h) _ _ mm208_ok mm208_run
-- decani/part.Ways, 1935 steps
noncomputable def mm231 : Ent :=
  ⟨23, [.agg ⟨[iP 1, .slice (some ⟨6, 0, none⟩) 2 2, iP 0, iP 254, iP 0, .slice none 0 0]⟩], 7,
   gB ++ [(6, .cells true 0 [iP 0, iP 0, iP 0, iP 1])],
   [],
   .tuple ⟨[iP 1, iP 0]⟩⟩
theorem mm231_ok : mm231.okS EE.G = true := by kernel_rfl
theorem mm231_run : evT EE [] 1000000000 (.call mm231.f mm231.args) mm231.heap (keptK mm231) = some (.bool true) := by kernel_rfl
theorem mm231_h : mm231.holds EE := ent_run envOk (fun _ h => by cases h) _ _ mm231_ok mm231_run
-- decani/part.Ways, 1467 steps
noncomputable def mm242 : Ent :=
  ⟨23, [.agg ⟨[iP 1, .slice (some ⟨6, 0, none⟩) 2 2, iP 0, iP 254, iP 0, .slice none 0 0]⟩], 7,
   gB ++ [(6, .cells true 0 [iP 2, iP 2, iP 2, iP 2])],
   [],
   .tuple ⟨[iP 0, iP 0]⟩⟩
theorem mm242_ok : mm242.okS EE.G = true := by kernel_rfl
theorem mm242_run : evT EE [] 1000000000 (.call mm242.f mm242.args) mm242.heap (keptK mm242) = some (.bool true) := by kernel_rfl
theorem mm242_h : mm242.holds EE := ent_run envOk (fun _ h => by cases h) _ _ mm242_ok mm242_run
end Go.Proofs.YtmjpnohpmfmdlaaGreatDoor
