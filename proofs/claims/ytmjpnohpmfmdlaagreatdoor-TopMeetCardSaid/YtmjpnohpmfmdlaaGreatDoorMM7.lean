/- Known calls, part 7: what single calls hand back, at small heaps, by the kernel's own run of the evaluator. No conditions. -/
import Derived.Test.YtmjpnohpmfmdlaaGreatDoorEnv
set_option linter.all false
namespace Go.Proofs.YtmjpnohpmfmdlaaGreatDoor
open Go.Ai
set_option maxRecDepth 1000000
-- decani/office.Kept, 26746 steps
noncomputable def mm7 : Ent :=
  ⟨11, [.agg ⟨[iP 6, iP 0, .slice (some ⟨6, 0, none⟩) 2 2, .slice none 0 0, .bool false, .slice none 0 0, .bool false, .slice none 0 0]⟩, iP 0, iP 1], 7,
   gB ++ [(6, .cells true 0 [iP 0, iP 1, iP 2, iP 2, iP 3, iP 2])],
   [],
   .tuple ⟨[iP 2, iP 0]⟩⟩
theorem mm7_ok : mm7.okS EE.G = true := by kernel_rfl
theorem mm7_run : evT EE [] 1000000000 (.call mm7.f mm7.args) mm7.heap (keptK mm7) = some (.bool true) := by kernel_rfl
theorem mm7_h : mm7.holds EE := ent_run envOk (fun _ h => by cases h) _ _ mm7_ok mm7_run
-- decani/office.Fits, 14381 steps
noncomputable def mm47 : Ent :=
  ⟨24, [.agg ⟨[iP 6, iP 0, .slice (some ⟨6, 0, none⟩) 2 2, .slice none 0 0, .bool false, .slice none 0 0, .bool false, .slice none 0 0]⟩, .agg ⟨[iP 0, iP 4, iP 1]⟩], 7,
   gB ++ [(6, .cells true 0 [iP 1, iP 2, iP 2, iP 3, iP 4, iP 2])],
   [],
   .tuple ⟨[.bool true, iP 0]⟩⟩
theorem mm47_ok : mm47.okS EE.G = true := by kernel_rfl
theorem mm47_run : evT EE [] 1000000000 (.call mm47.f mm47.args) mm47.heap (keptK mm47) = some (.bool true) := by kernel_rfl
theorem mm47_h : mm47.holds EE := ent_run envOk (fun _ h => by cases h) _ _ mm47_ok mm47_run
-- decani/office.Fits, 12039 steps
noncomputable def mm73 : Ent :=
  ⟨24, [.agg ⟨[iP 6, iP 0, .slice (some ⟨6, 0, none⟩) 2 2, .slice none 0 0, .bool false, .slice none 0 0, .bool false, .slice none 0 0]⟩, .agg ⟨[iP 0, iP 5, iP 1]⟩], 7,
   gB ++ [(6, .cells true 0 [iP 2, iP 2, iP 2, iP 3, iP 4, iP 2])],
   [],
   .tuple ⟨[.bool false, iP 0]⟩⟩
theorem mm73_ok : mm73.okS EE.G = true := by kernel_rfl
theorem mm73_run : evT EE [] 1000000000 (.call mm73.f mm73.args) mm73.heap (keptK mm73) = some (.bool true) := by kernel_rfl
theorem mm73_h : mm73.holds EE := ent_run envOk (fun _ h => by cases h) _ _ mm73_ok mm73_run
-- decani/office.Kept, 11237 steps
noncomputable def mm105 : Ent :=
  ⟨11, [.agg ⟨[iP 6, iP 0, .slice (some ⟨6, 0, none⟩) 2 2, .slice none 0 0, .bool false, .slice none 0 0, .bool false, .slice none 0 0]⟩, iP 0, iP 0], 7,
   gB ++ [(6, .cells true 0 [iP 2, iP 2, iP 2, iP 3, iP 3, iP 2])],
   [],
   .tuple ⟨[iP 2, iP 0]⟩⟩
theorem mm105_ok : mm105.okS EE.G = true := by kernel_rfl
theorem mm105_run : evT EE [] 1000000000 (.call mm105.f mm105.args) mm105.heap (keptK mm105) = some (.bool true) := by kernel_rfl
theorem mm105_h : mm105.holds EE := ent_run envOk (fun _ h => by cases h) _ _ mm105_ok mm105_run
-- decani/office.Fits, 8595 steps
noncomputable def mm134 : Ent :=
  ⟨24, [.agg ⟨[iP 6, iP 0, .slice (some ⟨6, 0, none⟩) 2 2, .slice none 0 0, .bool false, .slice none 0 0, .bool false, .slice none 0 0]⟩, .agg ⟨[iP 0, iP 2, iP 1]⟩], 7,
   gB ++ [(6, .cells true 0 [iP 2, iP 2, iP 2, iP 2, iP 3, iP 2])],
   [],
   .tuple ⟨[.bool false, iP 0]⟩⟩
theorem mm134_ok : mm134.okS EE.G = true := by kernel_rfl
theorem mm134_run : evT EE [] 1000000000 (.call mm134.f mm134.args) mm134.heap (keptK mm134) = some (.bool true) := by kernel_rfl
theorem mm134_h : mm134.holds EE := ent_run envOk (fun _ h => by cases h) _ _ mm134_ok mm134_run
-- decani/office.Fits, 6848 steps
noncomputable def mm159 : Ent :=
  ⟨24, [.agg ⟨[iP 6, iP 0, .slice (some ⟨6, 0, none⟩) 2 2, .slice none 0 0, .bool false, .slice none 0 0, .bool false, .slice none 0 0]⟩, .agg ⟨[iP 0, iP 2, iP 1]⟩], 7,
   gB ++ [(6, .cells true 0 [iP 2, iP 3, iP 2, iP 3, iP 4, iP 2])],
   [],
   .tuple ⟨[.bool false, iP 0]⟩⟩
theorem mm159_ok : mm159.okS EE.G = true := by kernel_rfl
theorem mm159_run : evT EE [] 1000000000 (.call mm159.f mm159.args) mm159.heap (keptK mm159) = some (.bool true) := by kernel_rfl
theorem mm159_h : mm159.holds EE := ent_run envOk (fun _ h => by cases h) _ _ mm159_ok mm159_run
-- decani/office.Fits, 6477 steps
noncomputable def mm187 : Ent :=
  ⟨24, [.agg ⟨[iP 6, iP 0, .slice (some ⟨6, 0, none⟩) 2 2, .slice none 0 0, .bool false, .slice none 0 0, .bool false, .slice none 0 0]⟩, .agg ⟨[iP 0, iP 2, iP 1]⟩], 7,
   gB ++ [(6, .cells true 0 [iP 2, iP 2, iP 2, iP 3, iP 4, iP 2])],
   [],
   .tuple ⟨[.bool false, iP 0]⟩⟩
theorem mm187_ok : mm187.okS EE.G = true := by kernel_rfl
theorem mm187_run : evT EE [] 1000000000 (.call mm187.f mm187.args) mm187.heap (keptK mm187) = some (.bool true) := by kernel_rfl
theorem mm187_h : mm187.holds EE := ent_run envOk (fun _ h => by cases h) _ _ mm187_ok mm187_run
-- decani/part.Ways, 3261 steps
noncomputable def mm220 : Ent :=
  ⟨23, [.agg ⟨[iP 1, .slice (some ⟨6, 0, none⟩) 2 2, iP 0, iP 254, iP 0, .slice none 0 0]⟩], 7,
   gB ++ [(6, .cells true 0 [iP 1, iP 2, iP 2, iP 3])],
   [],
   .tuple ⟨[iP 3, iP 0]⟩⟩
theorem mm220_ok : mm220.okS EE.G = true := by kernel_rfl
theorem mm220_run : evT EE [] 1000000000 (.call mm220.f mm220.args) mm220.heap (keptK mm220) = some (.bool true) := by kernel_rfl
theorem mm220_h : mm220.holds EE := ent_run envOk (fun _ h => by cases h) _ _ mm220_ok mm220_run
end Go.Proofs.YtmjpnohpmfmdlaaGreatDoor
