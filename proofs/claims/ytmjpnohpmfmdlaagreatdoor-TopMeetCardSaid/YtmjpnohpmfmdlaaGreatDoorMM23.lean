/- Known calls, part 23: what single calls hand back, at small heaps, by the kernel's own run of the evaluator. No conditions. -/
import Derived.Test.YtmjpnohpmfmdlaaGreatDoorEnv
set_option linter.all false
namespace Go.Proofs.YtmjpnohpmfmdlaaGreatDoor
open Go.Ai
set_option maxRecDepth 1000000
-- decani/office.Kept, 17008 steps
noncomputable def mm23 : Ent :=
  ⟨11, [.agg ⟨[iP 6, iP 0, .slice (some ⟨6, 0, none⟩) 2 2, .slice none 0 0, .bool false, .slice none 0 0, .bool false, .slice none 0 0]⟩, iP 0, iP 1], 7,
   gB ++ [(6, .cells true 0 [iP 1, iP 2, iP 2, iP 2, iP 2, iP 2])],
   [],
   .tuple ⟨[iP 1, iP 0]⟩⟩
theorem mm23_ok : mm23.okS EE.G = true := by kernel_rfl
theorem mm23_run : evT EE [] 1000000000 (.call mm23.f mm23.args) mm23.heap (keptK mm23) = some (.bool true) := by kernel_rfl
theorem mm23_h : mm23.holds EE := ent_run envOk (fun _ h => by cases h) _ _ mm23_ok mm23_run
-- decani/office.Fits, 16503 steps
noncomputable def mm32 : Ent :=
  ⟨24, [.agg ⟨[iP 6, iP 0, .slice (some ⟨6, 0, none⟩) 2 2, .slice none 0 0, .bool false, .slice none 0 0, .bool false, .slice none 0 0]⟩, .agg ⟨[iP 0, iP 4, iP 1]⟩], 7,
   gB ++ [(6, .cells true 0 [iP 1, iP 2, iP 2, iP 2, iP 3, iP 2])],
   [],
   .tuple ⟨[.bool false, iP 0]⟩⟩
theorem mm32_ok : mm32.okS EE.G = true := by kernel_rfl
theorem mm32_run : evT EE [] 1000000000 (.call mm32.f mm32.args) mm32.heap (keptK mm32) = some (.bool true) := by kernel_rfl
theorem mm32_h : mm32.holds EE := ent_run envOk (fun _ h => by cases h) _ _ mm32_ok mm32_run
-- decani/office.Fits, 12624 steps
noncomputable def mm59 : Ent :=
  ⟨24, [.agg ⟨[iP 6, iP 0, .slice (some ⟨6, 0, none⟩) 2 2, .slice none 0 0, .bool false, .slice none 0 0, .bool false, .slice none 0 0]⟩, .agg ⟨[iP 0, iP 5, iP 1]⟩], 7,
   gB ++ [(6, .cells true 0 [iP 0, iP 0, iP 2, iP 0, iP 1, iP 2])],
   [],
   .tuple ⟨[.bool false, iP 0]⟩⟩
theorem mm59_ok : mm59.okS EE.G = true := by kernel_rfl
theorem mm59_run : evT EE [] 1000000000 (.call mm59.f mm59.args) mm59.heap (keptK mm59) = some (.bool true) := by kernel_rfl
theorem mm59_h : mm59.holds EE := ent_run envOk (fun _ h => by cases h) _ _ mm59_ok mm59_run
-- decani/office.Fits, 11921 steps
noncomputable def mm89 : Ent :=
  ⟨24, [.agg ⟨[iP 6, iP 0, .slice (some ⟨6, 0, none⟩) 2 2, .slice none 0 0, .bool false, .slice none 0 0, .bool false, .slice none 0 0]⟩, .agg ⟨[iP 0, iP 3, iP 1]⟩], 7,
   gB ++ [(6, .cells true 0 [iP 2, iP 2, iP 2, iP 3, iP 4, iP 2])],
   [],
   .tuple ⟨[.bool true, iP 0]⟩⟩
theorem mm89_ok : mm89.okS EE.G = true := by kernel_rfl
theorem mm89_run : evT EE [] 1000000000 (.call mm89.f mm89.args) mm89.heap (keptK mm89) = some (.bool true) := by kernel_rfl
theorem mm89_h : mm89.holds EE := ent_run envOk (fun _ h => by cases h) _ _ mm89_ok mm89_run
-- decani/office.Fits, 10128 steps
noncomputable def mm117 : Ent :=
  ⟨24, [.agg ⟨[iP 6, iP 0, .slice (some ⟨6, 0, none⟩) 2 2, .slice none 0 0, .bool false, .slice none 0 0, .bool false, .slice none 0 0]⟩, .agg ⟨[iP 0, iP 2, iP 1]⟩], 7,
   gB ++ [(6, .cells true 0 [iP 0, iP 0, iP 2, iP 0, iP 1, iP 2])],
   [],
   .tuple ⟨[.bool false, iP 0]⟩⟩
theorem mm117_ok : mm117.okS EE.G = true := by kernel_rfl
theorem mm117_run : evT EE [] 1000000000 (.call mm117.f mm117.args) mm117.heap (keptK mm117) = some (.bool true) := by kernel_rfl
theorem mm117_h : mm117.holds EE := ent_run envOk (fun _ h => by cases h) _ _ mm117_ok mm117_run
-- decani/office.Fits, 6848 steps
noncomputable def mm150 : Ent :=
  ⟨24, [.agg ⟨[iP 6, iP 0, .slice (some ⟨6, 0, none⟩) 2 2, .slice none 0 0, .bool false, .slice none 0 0, .bool false, .slice none 0 0]⟩, .agg ⟨[iP 0, iP 0, iP 1]⟩], 7,
   gB ++ [(6, .cells true 0 [iP 0, iP 1, iP 2, iP 2, iP 3, iP 2])],
   [],
   .tuple ⟨[.bool false, iP 0]⟩⟩
theorem mm150_ok : mm150.okS EE.G = true := by kernel_rfl
theorem mm150_run : evT EE [] 1000000000 (.call mm150.f mm150.args) mm150.heap (keptK mm150) = some (.bool true) := by kernel_rfl
theorem mm150_h : mm150.holds EE := ent_run envOk (fun _ h => by cases h) _ _ mm150_ok mm150_run
-- decani/office.Fits, 6658 steps
noncomputable def mm172 : Ent :=
  ⟨24, [.agg ⟨[iP 6, iP 0, .slice (some ⟨6, 0, none⟩) 2 2, .slice none 0 0, .bool false, .slice none 0 0, .bool false, .slice none 0 0]⟩, .agg ⟨[iP 0, iP 0, iP 1]⟩], 7,
   gB ++ [(6, .cells true 0 [iP 1, iP 2, iP 2, iP 3, iP 3, iP 2])],
   [],
   .tuple ⟨[.bool false, iP 0]⟩⟩
theorem mm172_ok : mm172.okS EE.G = true := by kernel_rfl
theorem mm172_run : evT EE [] 1000000000 (.call mm172.f mm172.args) mm172.heap (keptK mm172) = some (.bool true) := by kernel_rfl
theorem mm172_h : mm172.holds EE := ent_run envOk (fun _ h => by cases h) _ _ mm172_ok mm172_run
-- decani/part.Notes, 4809 steps
noncomputable def mm200 : Ent :=
  ⟨25, [.agg ⟨[iP 1, .slice (some ⟨6, 0, none⟩) 2 2, iP 0, iP 254, iP 0, .slice none 0 0]⟩, iP 1, iP 0], 7,
   gB ++ [(6, .cells true 0 [iP 0, iP 1, iP 2, iP 2])],
   [.cells true 2 [iP 2]],
   .tuple ⟨[.slice (some ⟨7, 0, none⟩) 1 18446744073709551616, iP 0]⟩⟩
theorem mm200_ok : mm200.okS EE.G = true := by kernel_rfl
theorem mm200_run : evT EE [] 1000000000 (.call mm200.f mm200.args) mm200.heap (keptK mm200) = some (.bool true) := by kernel_rfl
theorem mm200_h : mm200.holds EE := ent_run envOk (fun _ h => by cases h) _ _ mm200_ok mm200_run
-- decani/part.Ways, 2325 steps
noncomputable def mm225 : Ent :=
  ⟨23, [.agg ⟨[iP 1, .slice (some ⟨6, 0, none⟩) 2 2, iP 0, iP 254, iP 0, .slice none 0 0]⟩], 7,
   gB ++ [(6, .cells true 0 [iP 0, iP 1, iP 1, iP 1])],
   [],
   .tuple ⟨[iP 1, iP 0]⟩⟩
theorem mm225_ok : mm225.okS EE.G = true := by kernel_rfl
theorem mm225_run : evT EE [] 1000000000 (.call mm225.f mm225.args) mm225.heap (keptK mm225) = some (.bool true) := by kernel_rfl
theorem mm225_h : mm225.holds EE := ent_run envOk (fun _ h => by cases h) _ _ mm225_ok mm225_run
end Go.Proofs.YtmjpnohpmfmdlaaGreatDoor
