/- Known calls, part 8: what single calls hand back, at small heaps, by the kernel's own run of the evaluator. No conditions. -/
import Derived.Test.YtmjpnohpmfmdlaaGreatDoorEnv
set_option linter.all false
namespace Go.Proofs.YtmjpnohpmfmdlaaGreatDoor
open Go.Ai
set_option maxRecDepth 1000000
-- decani/office.Kept, 26746 steps
noncomputable def mm8 : Ent :=
  ⟨11, [.agg ⟨[iP 6, iP 0, .slice (some ⟨6, 0, none⟩) 2 2, .slice none 0 0, .bool false, .slice none 0 0, .bool false, .slice none 0 0]⟩, iP 0, iP 0], 7,
   gB ++ [(6, .cells true 0 [iP 2, iP 3, iP 2, iP 4, iP 5, iP 2])],
   [],
   .tuple ⟨[iP 2, iP 0]⟩⟩
theorem mm8_ok : mm8.okS EE.G = true := by kernel_rfl
theorem mm8_run : evT EE [] 1000000000 (.call mm8.f mm8.args) mm8.heap (keptK mm8) = some (.bool true) := by kernel_rfl
theorem mm8_h : mm8.holds EE := ent_run envOk (fun _ h => by cases h) _ _ mm8_ok mm8_run
-- decani/office.Fits, 14381 steps
noncomputable def mm48 : Ent :=
  ⟨24, [.agg ⟨[iP 6, iP 0, .slice (some ⟨6, 0, none⟩) 2 2, .slice none 0 0, .bool false, .slice none 0 0, .bool false, .slice none 0 0]⟩, .agg ⟨[iP 0, iP 4, iP 1]⟩], 7,
   gB ++ [(6, .cells true 0 [iP 2, iP 2, iP 2, iP 3, iP 4, iP 2])],
   [],
   .tuple ⟨[.bool true, iP 0]⟩⟩
theorem mm48_ok : mm48.okS EE.G = true := by kernel_rfl
theorem mm48_run : evT EE [] 1000000000 (.call mm48.f mm48.args) mm48.heap (keptK mm48) = some (.bool true) := by kernel_rfl
theorem mm48_h : mm48.holds EE := ent_run envOk (fun _ h => by cases h) _ _ mm48_ok mm48_run
-- decani/office.Kept, 12017 steps
noncomputable def mm74 : Ent :=
  ⟨11, [.agg ⟨[iP 6, iP 0, .slice (some ⟨6, 0, none⟩) 2 2, .slice none 0 0, .bool false, .slice none 0 0, .bool false, .slice none 0 0]⟩, iP 0, iP 0], 7,
   gB ++ [(6, .cells true 0 [iP 2, iP 2, iP 2, iP 2, iP 2, iP 2])],
   [],
   .tuple ⟨[iP 2, iP 0]⟩⟩
theorem mm74_ok : mm74.okS EE.G = true := by kernel_rfl
theorem mm74_run : evT EE [] 1000000000 (.call mm74.f mm74.args) mm74.heap (keptK mm74) = some (.bool true) := by kernel_rfl
theorem mm74_h : mm74.holds EE := ent_run envOk (fun _ h => by cases h) _ _ mm74_ok mm74_run
-- decani/office.Kept, 11288 steps
noncomputable def mm103 : Ent :=
  ⟨11, [.agg ⟨[iP 6, iP 0, .slice (some ⟨6, 0, none⟩) 2 2, .slice none 0 0, .bool false, .slice none 0 0, .bool false, .slice none 0 0]⟩, iP 0, iP 1], 7,
   gB ++ [(6, .cells true 0 [iP 2, iP 2, iP 2, iP 3, iP 3, iP 2])],
   [],
   .tuple ⟨[iP 2, iP 0]⟩⟩
theorem mm103_ok : mm103.okS EE.G = true := by kernel_rfl
theorem mm103_run : evT EE [] 1000000000 (.call mm103.f mm103.args) mm103.heap (keptK mm103) = some (.bool true) := by kernel_rfl
theorem mm103_h : mm103.holds EE := ent_run envOk (fun _ h => by cases h) _ _ mm103_ok mm103_run
-- decani/office.Fits, 8500 steps
noncomputable def mm136 : Ent :=
  ⟨24, [.agg ⟨[iP 6, iP 0, .slice (some ⟨6, 0, none⟩) 2 2, .slice none 0 0, .bool false, .slice none 0 0, .bool false, .slice none 0 0]⟩, .agg ⟨[iP 0, iP 2, iP 1]⟩], 7,
   gB ++ [(6, .cells true 0 [iP 1, iP 1, iP 2, iP 1, iP 1, iP 2])],
   [],
   .tuple ⟨[.bool false, iP 0]⟩⟩
theorem mm136_ok : mm136.okS EE.G = true := by kernel_rfl
theorem mm136_run : evT EE [] 1000000000 (.call mm136.f mm136.args) mm136.heap (keptK mm136) = some (.bool true) := by kernel_rfl
theorem mm136_h : mm136.holds EE := ent_run envOk (fun _ h => by cases h) _ _ mm136_ok mm136_run
-- decani/office.Fits, 6848 steps
noncomputable def mm158 : Ent :=
  ⟨24, [.agg ⟨[iP 6, iP 0, .slice (some ⟨6, 0, none⟩) 2 2, .slice none 0 0, .bool false, .slice none 0 0, .bool false, .slice none 0 0]⟩, .agg ⟨[iP 0, iP 1, iP 1]⟩], 7,
   gB ++ [(6, .cells true 0 [iP 2, iP 3, iP 2, iP 3, iP 4, iP 2])],
   [],
   .tuple ⟨[.bool false, iP 0]⟩⟩
theorem mm158_ok : mm158.okS EE.G = true := by kernel_rfl
theorem mm158_run : evT EE [] 1000000000 (.call mm158.f mm158.args) mm158.heap (keptK mm158) = some (.bool true) := by kernel_rfl
theorem mm158_h : mm158.holds EE := ent_run envOk (fun _ h => by cases h) _ _ mm158_ok mm158_run
-- decani/office.Fits, 6477 steps
noncomputable def mm186 : Ent :=
  ⟨24, [.agg ⟨[iP 6, iP 0, .slice (some ⟨6, 0, none⟩) 2 2, .slice none 0 0, .bool false, .slice none 0 0, .bool false, .slice none 0 0]⟩, .agg ⟨[iP 0, iP 1, iP 1]⟩], 7,
   gB ++ [(6, .cells true 0 [iP 2, iP 2, iP 2, iP 3, iP 4, iP 2])],
   [],
   .tuple ⟨[.bool false, iP 0]⟩⟩
theorem mm186_ok : mm186.okS EE.G = true := by kernel_rfl
theorem mm186_run : evT EE [] 1000000000 (.call mm186.f mm186.args) mm186.heap (keptK mm186) = some (.bool true) := by kernel_rfl
theorem mm186_h : mm186.holds EE := ent_run envOk (fun _ h => by cases h) _ _ mm186_ok mm186_run
-- decani/part.Ways, 3486 steps
noncomputable def mm217 : Ent :=
  ⟨23, [.agg ⟨[iP 1, .slice (some ⟨6, 0, none⟩) 2 2, iP 0, iP 254, iP 0, .slice none 0 0]⟩], 7,
   gB ++ [(6, .cells true 0 [iP 1, iP 2, iP 3, iP 4])],
   [],
   .tuple ⟨[iP 4, iP 0]⟩⟩
theorem mm217_ok : mm217.okS EE.G = true := by kernel_rfl
theorem mm217_run : evT EE [] 1000000000 (.call mm217.f mm217.args) mm217.heap (keptK mm217) = some (.bool true) := by kernel_rfl
theorem mm217_h : mm217.holds EE := ent_run envOk (fun _ h => by cases h) _ _ mm217_ok mm217_run
end Go.Proofs.YtmjpnohpmfmdlaaGreatDoor
