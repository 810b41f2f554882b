/- Known calls, part 21: what single calls hand back, at small heaps, by the kernel's own run of the evaluator. No conditions. -/
import Derived.Test.YtmjpnohpmfmdlaaGreatDoorEnv
set_option linter.all false
namespace Go.Proofs.YtmjpnohpmfmdlaaGreatDoor
open Go.Ai
set_option maxRecDepth 1000000
-- decani/office.Kept, 17059 steps
noncomputable def mm21 : Ent :=
  ⟨11, [.agg ⟨[iP 6, iP 0, .slice (some ⟨6, 0, none⟩) 2 2, .slice none 0 0, .bool false, .slice none 0 0, .bool false, .slice none 0 0]⟩, iP 0, iP 1], 7,
   gB ++ [(6, .cells true 0 [iP 2, iP 3, iP 2, iP 3, iP 3, iP 2])],
   [],
   .tuple ⟨[iP 1, iP 0]⟩⟩
theorem mm21_ok : mm21.okS EE.G = true := by kernel_rfl
theorem mm21_run : evT EE [] 1000000000 (.call mm21.f mm21.args) mm21.heap (keptK mm21) = some (.bool true) := by kernel_rfl
theorem mm21_h : mm21.holds EE := ent_run envOk (fun _ h => by cases h) _ _ mm21_ok mm21_run
-- decani/office.Kept, 16486 steps
noncomputable def mm34 : Ent :=
  ⟨11, [.agg ⟨[iP 6, iP 0, .slice (some ⟨6, 0, none⟩) 2 2, .slice none 0 0, .bool false, .slice none 0 0, .bool false, .slice none 0 0]⟩, iP 0, iP 1], 7,
   gB ++ [(6, .cells true 0 [iP 2, iP 2, iP 2, iP 3, iP 4, iP 2])],
   [],
   .tuple ⟨[iP 2, iP 0]⟩⟩
theorem mm34_ok : mm34.okS EE.G = true := by kernel_rfl
theorem mm34_run : evT EE [] 1000000000 (.call mm34.f mm34.args) mm34.heap (keptK mm34) = some (.bool true) := by kernel_rfl
theorem mm34_h : mm34.holds EE := ent_run envOk (fun _ h => by cases h) _ _ mm34_ok mm34_run
-- decani/office.Fits, 12624 steps
noncomputable def mm61 : Ent :=
  ⟨24, [.agg ⟨[iP 6, iP 0, .slice (some ⟨6, 0, none⟩) 2 2, .slice none 0 0, .bool false, .slice none 0 0, .bool false, .slice none 0 0]⟩, .agg ⟨[iP 0, iP 5, iP 1]⟩], 7,
   gB ++ [(6, .cells true 0 [iP 2, iP 2, iP 2, iP 2, iP 3, iP 2])],
   [],
   .tuple ⟨[.bool false, iP 0]⟩⟩
theorem mm61_ok : mm61.okS EE.G = true := by kernel_rfl
theorem mm61_run : evT EE [] 1000000000 (.call mm61.f mm61.args) mm61.heap (keptK mm61) = some (.bool true) := by kernel_rfl
theorem mm61_h : mm61.holds EE := ent_run envOk (fun _ h => by cases h) _ _ mm61_ok mm61_run
-- decani/office.Fits, 11921 steps
noncomputable def mm91 : Ent :=
  ⟨24, [.agg ⟨[iP 6, iP 0, .slice (some ⟨6, 0, none⟩) 2 2, .slice none 0 0, .bool false, .slice none 0 0, .bool false, .slice none 0 0]⟩, .agg ⟨[iP 0, iP 3, iP 1]⟩], 7,
   gB ++ [(6, .cells true 0 [iP 2, iP 3, iP 2, iP 3, iP 4, iP 2])],
   [],
   .tuple ⟨[.bool true, iP 0]⟩⟩
theorem mm91_ok : mm91.okS EE.G = true := by kernel_rfl
theorem mm91_run : evT EE [] 1000000000 (.call mm91.f mm91.args) mm91.heap (keptK mm91) = some (.bool true) := by kernel_rfl
theorem mm91_h : mm91.holds EE := ent_run envOk (fun _ h => by cases h) _ _ mm91_ok mm91_run
-- decani/office.Fits, 9748 steps
noncomputable def mm119 : Ent :=
  ⟨24, [.agg ⟨[iP 6, iP 0, .slice (some ⟨6, 0, none⟩) 2 2, .slice none 0 0, .bool false, .slice none 0 0, .bool false, .slice none 0 0]⟩, .agg ⟨[iP 0, iP 5, iP 1]⟩], 7,
   gB ++ [(6, .cells true 0 [iP 0, iP 0, iP 2, iP 0, iP 0, iP 2])],
   [],
   .tuple ⟨[.bool false, iP 0]⟩⟩
theorem mm119_ok : mm119.okS EE.G = true := by kernel_rfl
theorem mm119_run : evT EE [] 1000000000 (.call mm119.f mm119.args) mm119.heap (keptK mm119) = some (.bool true) := by kernel_rfl
theorem mm119_h : mm119.holds EE := ent_run envOk (fun _ h => by cases h) _ _ mm119_ok mm119_run
-- decani/office.Fits, 7763 steps
noncomputable def mm144 : Ent :=
  ⟨24, [.agg ⟨[iP 6, iP 0, .slice (some ⟨6, 0, none⟩) 2 2, .slice none 0 0, .bool false, .slice none 0 0, .bool false, .slice none 0 0]⟩, .agg ⟨[iP 0, iP 0, iP 1]⟩], 7,
   gB ++ [(6, .cells true 0 [iP 0, iP 0, iP 2, iP 0, iP 1, iP 2])],
   [],
   .tuple ⟨[.bool false, iP 0]⟩⟩
theorem mm144_ok : mm144.okS EE.G = true := by kernel_rfl
theorem mm144_run : evT EE [] 1000000000 (.call mm144.f mm144.args) mm144.heap (keptK mm144) = some (.bool true) := by kernel_rfl
theorem mm144_h : mm144.holds EE := ent_run envOk (fun _ h => by cases h) _ _ mm144_ok mm144_run
-- decani/office.Fits, 6658 steps
noncomputable def mm178 : Ent :=
  ⟨24, [.agg ⟨[iP 6, iP 0, .slice (some ⟨6, 0, none⟩) 2 2, .slice none 0 0, .bool false, .slice none 0 0, .bool false, .slice none 0 0]⟩, .agg ⟨[iP 0, iP 0, iP 1]⟩], 7,
   gB ++ [(6, .cells true 0 [iP 2, iP 3, iP 2, iP 4, iP 4, iP 2])],
   [],
   .tuple ⟨[.bool false, iP 0]⟩⟩
theorem mm178_ok : mm178.okS EE.G = true := by kernel_rfl
theorem mm178_run : evT EE [] 1000000000 (.call mm178.f mm178.args) mm178.heap (keptK mm178) = some (.bool true) := by kernel_rfl
theorem mm178_h : mm178.holds EE := ent_run envOk (fun _ h => by cases h) _ _ mm178_ok mm178_run
-- decani/part.Notes, 4337 steps
noncomputable def mm206 : Ent :=
  ⟨25, [.agg ⟨[iP 1, .slice (some ⟨6, 0, none⟩) 2 2, iP 0, iP 254, iP 0, .slice none 0 0]⟩, iP 1, iP 0], 7,
   gB ++ [(6, .cells true 0 [iP 0, iP 1, iP 1, iP 1])],
   [.cells true 2 [iP 1]],
   .tuple ⟨[.slice (some ⟨7, 0, none⟩) 1 18446744073709551616, iP 0]⟩⟩
theorem mm206_ok : mm206.okS EE.G = true := by kernel_rfl
theorem mm206_run : evT EE [] 1000000000 (.call mm206.f mm206.args) mm206.heap (keptK mm206) = some (.bool true) := by kernel_rfl
theorem mm206_h : mm206.holds EE := ent_run envOk (fun _ h => by cases h) _ _ mm206_ok mm206_run
-- decani/part.Ways, 2160 steps
noncomputable def mm229 : Ent :=
  ⟨23, [.agg ⟨[iP 1, .slice (some ⟨6, 0, none⟩) 2 2, iP 0, iP 254, iP 0, .slice none 0 0]⟩], 7,
   gB ++ [(6, .cells true 0 [iP 1, iP 1, iP 2, iP 3])],
   [],
   .tuple ⟨[iP 2, iP 0]⟩⟩
theorem mm229_ok : mm229.okS EE.G = true := by kernel_rfl
theorem mm229_run : evT EE [] 1000000000 (.call mm229.f mm229.args) mm229.heap (keptK mm229) = some (.bool true) := by kernel_rfl
theorem mm229_h : mm229.holds EE := ent_run envOk (fun _ h => by cases h) _ _ mm229_ok mm229_run
end Go.Proofs.YtmjpnohpmfmdlaaGreatDoor
