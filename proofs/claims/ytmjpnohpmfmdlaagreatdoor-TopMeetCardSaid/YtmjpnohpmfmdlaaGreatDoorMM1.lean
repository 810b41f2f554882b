/- Known calls, part 1: what single calls hand back, at small heaps, by the kernel's own run of the evaluator. No conditions. -/
import Derived.Test.YtmjpnohpmfmdlaaGreatDoorEnv
set_option linter.all false
namespace Go.Proofs.YtmjpnohpmfmdlaaGreatDoor
open Go.Ai
set_option maxRecDepth 1000000
-- decani/office.Kept, 27302 steps
noncomputable def mm1 : Ent :=
  ⟨11, [.agg ⟨[iP 6, iP 0, .slice (some ⟨6, 0, none⟩) 2 2, .slice none 0 0, .bool false, .slice none 0 0, .bool false, .slice none 0 0]⟩, iP 0, iP 1], 7,
   gB ++ [(6, .cells true 0 [iP 1, iP 2, iP 2, iP 2, iP 3, iP 2])],
   [],
   .tuple ⟨[iP 1, iP 0]⟩⟩
theorem mm1_ok : mm1.okS EE.G = true := by kernel_rfl
theorem mm1_run : evT EE [] 1000000000 (.call mm1.f mm1.args) mm1.heap (keptK mm1) = some (.bool true) := by kernel_rfl
theorem mm1_h : mm1.holds EE := ent_run envOk (fun _ h => by cases h) _ _ mm1_ok mm1_run
-- decani/office.Fits, 13965 steps
noncomputable def mm54 : Ent :=
  ⟨24, [.agg ⟨[iP 6, iP 0, .slice (some ⟨6, 0, none⟩) 2 2, .slice none 0 0, .bool false, .slice none 0 0, .bool false, .slice none 0 0]⟩, .agg ⟨[iP 0, iP 3, iP 1]⟩], 7,
   gB ++ [(6, .cells true 0 [iP 1, iP 1, iP 2, iP 2, iP 3, iP 2])],
   [],
   .tuple ⟨[.bool true, iP 0]⟩⟩
theorem mm54_ok : mm54.okS EE.G = true := by kernel_rfl
theorem mm54_run : evT EE [] 1000000000 (.call mm54.f mm54.args) mm54.heap (keptK mm54) = some (.bool true) := by kernel_rfl
theorem mm54_h : mm54.holds EE := ent_run envOk (fun _ h => by cases h) _ _ mm54_ok mm54_run
-- decani/office.Fits, 11921 steps
noncomputable def mm78 : Ent :=
  ⟨24, [.agg ⟨[iP 6, iP 0, .slice (some ⟨6, 0, none⟩) 2 2, .slice none 0 0, .bool false, .slice none 0 0, .bool false, .slice none 0 0]⟩, .agg ⟨[iP 0, iP 1, iP 1]⟩], 7,
   gB ++ [(6, .cells true 0 [iP 0, iP 1, iP 2, iP 1, iP 1, iP 2])],
   [],
   .tuple ⟨[.bool true, iP 0]⟩⟩
theorem mm78_ok : mm78.okS EE.G = true := by kernel_rfl
theorem mm78_run : evT EE [] 1000000000 (.call mm78.f mm78.args) mm78.heap (keptK mm78) = some (.bool true) := by kernel_rfl
theorem mm78_h : mm78.holds EE := ent_run envOk (fun _ h => by cases h) _ _ mm78_ok mm78_run
-- decani/office.Fits, 11207 steps
noncomputable def mm106 : Ent :=
  ⟨24, [.agg ⟨[iP 6, iP 0, .slice (some ⟨6, 0, none⟩) 2 2, .slice none 0 0, .bool false, .slice none 0 0, .bool false, .slice none 0 0]⟩, .agg ⟨[iP 0, iP 4, iP 1]⟩], 7,
   gB ++ [(6, .cells true 0 [iP 0, iP 0, iP 2, iP 1, iP 2, iP 2])],
   [],
   .tuple ⟨[.bool false, iP 0]⟩⟩
theorem mm106_ok : mm106.okS EE.G = true := by kernel_rfl
theorem mm106_run : evT EE [] 1000000000 (.call mm106.f mm106.args) mm106.heap (keptK mm106) = some (.bool true) := by kernel_rfl
theorem mm106_h : mm106.holds EE := ent_run envOk (fun _ h => by cases h) _ _ mm106_ok mm106_run
-- decani/office.Fits, 8916 steps
noncomputable def mm130 : Ent :=
  ⟨24, [.agg ⟨[iP 6, iP 0, .slice (some ⟨6, 0, none⟩) 2 2, .slice none 0 0, .bool false, .slice none 0 0, .bool false, .slice none 0 0]⟩, .agg ⟨[iP 0, iP 3, iP 1]⟩], 7,
   gB ++ [(6, .cells true 0 [iP 2, iP 2, iP 2, iP 2, iP 2, iP 2])],
   [],
   .tuple ⟨[.bool false, iP 0]⟩⟩
theorem mm130_ok : mm130.okS EE.G = true := by kernel_rfl
theorem mm130_run : evT EE [] 1000000000 (.call mm130.f mm130.args) mm130.heap (keptK mm130) = some (.bool true) := by kernel_rfl
theorem mm130_h : mm130.holds EE := ent_run envOk (fun _ h => by cases h) _ _ mm130_ok mm130_run
-- decani/office.Fits, 6658 steps
noncomputable def mm167 : Ent :=
  ⟨24, [.agg ⟨[iP 6, iP 0, .slice (some ⟨6, 0, none⟩) 2 2, .slice none 0 0, .bool false, .slice none 0 0, .bool false, .slice none 0 0]⟩, .agg ⟨[iP 0, iP 0, iP 1]⟩], 7,
   gB ++ [(6, .cells true 0 [iP 0, iP 1, iP 2, iP 1, iP 1, iP 2])],
   [],
   .tuple ⟨[.bool false, iP 0]⟩⟩
theorem mm167_ok : mm167.okS EE.G = true := by kernel_rfl
theorem mm167_run : evT EE [] 1000000000 (.call mm167.f mm167.args) mm167.heap (keptK mm167) = some (.bool true) := by kernel_rfl
theorem mm167_h : mm167.holds EE := ent_run envOk (fun _ h => by cases h) _ _ mm167_ok mm167_run
-- decani/office.Fits, 6382 steps
noncomputable def mm191 : Ent :=
  ⟨24, [.agg ⟨[iP 6, iP 0, .slice (some ⟨6, 0, none⟩) 2 2, .slice none 0 0, .bool false, .slice none 0 0, .bool false, .slice none 0 0]⟩, .agg ⟨[iP 0, iP 0, iP 1]⟩], 7,
   gB ++ [(6, .cells true 0 [iP 2, iP 2, iP 2, iP 3, iP 3, iP 2])],
   [],
   .tuple ⟨[.bool false, iP 0]⟩⟩
theorem mm191_ok : mm191.okS EE.G = true := by kernel_rfl
theorem mm191_run : evT EE [] 1000000000 (.call mm191.f mm191.args) mm191.heap (keptK mm191) = some (.bool true) := by kernel_rfl
theorem mm191_h : mm191.holds EE := ent_run envOk (fun _ h => by cases h) _ _ mm191_ok mm191_run
-- decani/part.Ways, 3261 steps
noncomputable def mm221 : Ent :=
  ⟨23, [.agg ⟨[iP 1, .slice (some ⟨6, 0, none⟩) 2 2, iP 0, iP 254, iP 0, .slice none 0 0]⟩], 7,
   gB ++ [(6, .cells true 0 [iP 2, iP 3, iP 3, iP 4])],
   [],
   .tuple ⟨[iP 3, iP 0]⟩⟩
theorem mm221_ok : mm221.okS EE.G = true := by kernel_rfl
theorem mm221_run : evT EE [] 1000000000 (.call mm221.f mm221.args) mm221.heap (keptK mm221) = some (.bool true) := by kernel_rfl
theorem mm221_h : mm221.holds EE := ent_run envOk (fun _ h => by cases h) _ _ mm221_ok mm221_run
end Go.Proofs.YtmjpnohpmfmdlaaGreatDoor
