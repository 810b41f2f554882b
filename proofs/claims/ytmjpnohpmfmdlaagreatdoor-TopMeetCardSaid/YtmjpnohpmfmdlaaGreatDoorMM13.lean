/- Known calls, part 13: what single calls hand back, at small heaps, by the kernel's own run of the evaluator. No conditions. -/
import Derived.Test.YtmjpnohpmfmdlaaGreatDoorEnv
set_option linter.all false
namespace Go.Proofs.YtmjpnohpmfmdlaaGreatDoor
open Go.Ai
set_option maxRecDepth 1000000
-- decani/office.Fits, 18167 steps
noncomputable def mm13 : Ent :=
  ⟨24, [.agg ⟨[iP 6, iP 0, .slice (some ⟨6, 0, none⟩) 2 2, .slice none 0 0, .bool false, .slice none 0 0, .bool false, .slice none 0 0]⟩, .agg ⟨[iP 0, iP 5, iP 1]⟩], 7,
   gB ++ [(6, .cells true 0 [iP 1, iP 2, iP 2, iP 2, iP 3, iP 2])],
   [],
   .tuple ⟨[.bool false, iP 0]⟩⟩
theorem mm13_ok : mm13.okS EE.G = true := by kernel_rfl
theorem mm13_run : evT EE [] 1000000000 (.call mm13.f mm13.args) mm13.heap (keptK mm13) = some (.bool true) := by kernel_rfl
theorem mm13_h : mm13.holds EE := ent_run envOk (fun _ h => by cases h) _ _ mm13_ok mm13_run
-- decani/office.Kept, 16231 steps
noncomputable def mm42 : Ent :=
  ⟨11, [.agg ⟨[iP 6, iP 0, .slice (some ⟨6, 0, none⟩) 2 2, .slice none 0 0, .bool false, .slice none 0 0, .bool false, .slice none 0 0]⟩, iP 0, iP 0], 7,
   gB ++ [(6, .cells true 0 [iP 1, iP 1, iP 2, iP 2, iP 3, iP 2])],
   [],
   .tuple ⟨[iP 2, iP 0]⟩⟩
theorem mm42_ok : mm42.okS EE.G = true := by kernel_rfl
theorem mm42_run : evT EE [] 1000000000 (.call mm42.f mm42.args) mm42.heap (keptK mm42) = some (.bool true) := by kernel_rfl
theorem mm42_h : mm42.holds EE := ent_run envOk (fun _ h => by cases h) _ _ mm42_ok mm42_run
-- decani/office.Kept, 12176 steps
noncomputable def mm70 : Ent :=
  ⟨11, [.agg ⟨[iP 6, iP 0, .slice (some ⟨6, 0, none⟩) 2 2, .slice none 0 0, .bool false, .slice none 0 0, .bool false, .slice none 0 0]⟩, iP 0, iP 1], 7,
   gB ++ [(6, .cells true 0 [iP 2, iP 2, iP 2, iP 2, iP 2, iP 2])],
   [],
   .tuple ⟨[iP 0, iP 0]⟩⟩
theorem mm70_ok : mm70.okS EE.G = true := by kernel_rfl
theorem mm70_run : evT EE [] 1000000000 (.call mm70.f mm70.args) mm70.heap (keptK mm70) = some (.bool true) := by kernel_rfl
theorem mm70_h : mm70.holds EE := ent_run envOk (fun _ h => by cases h) _ _ mm70_ok mm70_run
-- decani/office.Fits, 11792 steps
noncomputable def mm96 : Ent :=
  ⟨24, [.agg ⟨[iP 6, iP 0, .slice (some ⟨6, 0, none⟩) 2 2, .slice none 0 0, .bool false, .slice none 0 0, .bool false, .slice none 0 0]⟩, .agg ⟨[iP 0, iP 4, iP 1]⟩], 7,
   gB ++ [(6, .cells true 0 [iP 1, iP 1, iP 2, iP 1, iP 2, iP 2])],
   [],
   .tuple ⟨[.bool false, iP 0]⟩⟩
theorem mm96_ok : mm96.okS EE.G = true := by kernel_rfl
theorem mm96_run : evT EE [] 1000000000 (.call mm96.f mm96.args) mm96.heap (keptK mm96) = some (.bool true) := by kernel_rfl
theorem mm96_h : mm96.holds EE := ent_run envOk (fun _ h => by cases h) _ _ mm96_ok mm96_run
-- decani/office.Fits, 9748 steps
noncomputable def mm121 : Ent :=
  ⟨24, [.agg ⟨[iP 6, iP 0, .slice (some ⟨6, 0, none⟩) 2 2, .slice none 0 0, .bool false, .slice none 0 0, .bool false, .slice none 0 0]⟩, .agg ⟨[iP 0, iP 5, iP 1]⟩], 7,
   gB ++ [(6, .cells true 0 [iP 2, iP 2, iP 2, iP 2, iP 2, iP 2])],
   [],
   .tuple ⟨[.bool false, iP 0]⟩⟩
theorem mm121_ok : mm121.okS EE.G = true := by kernel_rfl
theorem mm121_run : evT EE [] 1000000000 (.call mm121.f mm121.args) mm121.heap (keptK mm121) = some (.bool true) := by kernel_rfl
theorem mm121_h : mm121.holds EE := ent_run envOk (fun _ h => by cases h) _ _ mm121_ok mm121_run
-- decani/office.Fits, 6848 steps
noncomputable def mm149 : Ent :=
  ⟨24, [.agg ⟨[iP 6, iP 0, .slice (some ⟨6, 0, none⟩) 2 2, .slice none 0 0, .bool false, .slice none 0 0, .bool false, .slice none 0 0]⟩, .agg ⟨[iP 0, iP 0, iP 1]⟩], 7,
   gB ++ [(6, .cells true 0 [iP 0, iP 1, iP 2, iP 1, iP 2, iP 2])],
   [],
   .tuple ⟨[.bool false, iP 0]⟩⟩
theorem mm149_ok : mm149.okS EE.G = true := by kernel_rfl
theorem mm149_run : evT EE [] 1000000000 (.call mm149.f mm149.args) mm149.heap (keptK mm149) = some (.bool true) := by kernel_rfl
theorem mm149_h : mm149.holds EE := ent_run envOk (fun _ h => by cases h) _ _ mm149_ok mm149_run
-- decani/office.Fits, 6658 steps
noncomputable def mm171 : Ent :=
  ⟨24, [.agg ⟨[iP 6, iP 0, .slice (some ⟨6, 0, none⟩) 2 2, .slice none 0 0, .bool false, .slice none 0 0, .bool false, .slice none 0 0]⟩, .agg ⟨[iP 0, iP 1, iP 1]⟩], 7,
   gB ++ [(6, .cells true 0 [iP 1, iP 2, iP 2, iP 2, iP 2, iP 2])],
   [],
   .tuple ⟨[.bool false, iP 0]⟩⟩
theorem mm171_ok : mm171.okS EE.G = true := by kernel_rfl
theorem mm171_run : evT EE [] 1000000000 (.call mm171.f mm171.args) mm171.heap (keptK mm171) = some (.bool true) := by kernel_rfl
theorem mm171_h : mm171.holds EE := ent_run envOk (fun _ h => by cases h) _ _ mm171_ok mm171_run
-- decani/part.Notes, 5773 steps
noncomputable def mm199 : Ent :=
  ⟨25, [.agg ⟨[iP 1, .slice (some ⟨6, 0, none⟩) 2 2, iP 0, iP 254, iP 0, .slice none 0 0]⟩, iP 1, iP 0], 7,
   gB ++ [(6, .cells true 0 [iP 2, iP 3, iP 3, iP 4])],
   [.cells true 2 [iP 3, iP 4]],
   .tuple ⟨[.slice (some ⟨7, 0, none⟩) 2 18446744073709551616, iP 0]⟩⟩
theorem mm199_ok : mm199.okS EE.G = true := by kernel_rfl
theorem mm199_run : evT EE [] 1000000000 (.call mm199.f mm199.args) mm199.heap (keptK mm199) = some (.bool true) := by kernel_rfl
theorem mm199_h : mm199.holds EE := ent_run envOk (fun _ h => by cases h) _ _ mm199_ok mm199_run
-- decani/part.Notes, 1607 steps
noncomputable def mm238 : Ent :=
  ⟨25, [.agg ⟨[iP 1, .slice (some ⟨6, 0, none⟩) 2 2, iP 0, iP 254, iP 0, .slice none 0 0]⟩, iP 1, iP 0], 7,
   gB ++ [(6, .cells true 0 [iP 1, iP 1, iP 1, iP 1])],
   [],
   .tuple ⟨[.slice none 0 0, iP 52]⟩⟩
theorem mm238_ok : mm238.okS EE.G = true := by kernel_rfl
theorem mm238_run : evT EE [] 1000000000 (.call mm238.f mm238.args) mm238.heap (keptK mm238) = some (.bool true) := by kernel_rfl
theorem mm238_h : mm238.holds EE := ent_run envOk (fun _ h => by cases h) _ _ mm238_ok mm238_run
end Go.Proofs.YtmjpnohpmfmdlaaGreatDoor
