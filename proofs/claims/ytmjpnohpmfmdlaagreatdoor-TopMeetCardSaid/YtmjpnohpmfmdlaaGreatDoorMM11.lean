/- Known calls, part 11: what single calls hand back, at small heaps, by the kernel's own run of the evaluator. No conditions. -/
import Derived.Test.YtmjpnohpmfmdlaaGreatDoorEnv
set_option linter.all false
namespace Go.Proofs.YtmjpnohpmfmdlaaGreatDoor
open Go.Ai
set_option maxRecDepth 1000000
-- decani/office.Kept, 26338 steps
noncomputable def mm11 : Ent :=
  ⟨11, [.agg ⟨[iP 6, iP 0, .slice (some ⟨6, 0, none⟩) 2 2, .slice none 0 0, .bool false, .slice none 0 0, .bool false, .slice none 0 0]⟩, iP 0, iP 0], 7,
   gB ++ [(6, .cells true 0 [iP 0, iP 1, iP 2, iP 2, iP 3, iP 2])],
   [],
   .tuple ⟨[iP 2, iP 0]⟩⟩
theorem mm11_ok : mm11.okS EE.G = true := by kernel_rfl
theorem mm11_run : evT EE [] 1000000000 (.call mm11.f mm11.args) mm11.heap (keptK mm11) = some (.bool true) := by kernel_rfl
theorem mm11_h : mm11.holds EE := ent_run envOk (fun _ h => by cases h) _ _ mm11_ok mm11_run
-- decani/office.Fits, 14839 steps
noncomputable def mm44 : Ent :=
  ⟨24, [.agg ⟨[iP 6, iP 0, .slice (some ⟨6, 0, none⟩) 2 2, .slice none 0 0, .bool false, .slice none 0 0, .bool false, .slice none 0 0]⟩, .agg ⟨[iP 0, iP 3, iP 1]⟩], 7,
   gB ++ [(6, .cells true 0 [iP 0, iP 1, iP 2, iP 1, iP 2, iP 2])],
   [],
   .tuple ⟨[.bool false, iP 0]⟩⟩
theorem mm44_ok : mm44.okS EE.G = true := by kernel_rfl
theorem mm44_run : evT EE [] 1000000000 (.call mm44.f mm44.args) mm44.heap (keptK mm44) = some (.bool true) := by kernel_rfl
theorem mm44_h : mm44.holds EE := ent_run envOk (fun _ h => by cases h) _ _ mm44_ok mm44_run
-- decani/office.Kept, 11966 steps
noncomputable def mm75 : Ent :=
  ⟨11, [.agg ⟨[iP 6, iP 0, .slice (some ⟨6, 0, none⟩) 2 2, .slice none 0 0, .bool false, .slice none 0 0, .bool false, .slice none 0 0]⟩, iP 0, iP 0], 7,
   gB ++ [(6, .cells true 0 [iP 1, iP 1, iP 2, iP 1, iP 1, iP 2])],
   [],
   .tuple ⟨[iP 2, iP 0]⟩⟩
theorem mm75_ok : mm75.okS EE.G = true := by kernel_rfl
theorem mm75_run : evT EE [] 1000000000 (.call mm75.f mm75.args) mm75.heap (keptK mm75) = some (.bool true) := by kernel_rfl
theorem mm75_h : mm75.holds EE := ent_run envOk (fun _ h => by cases h) _ _ mm75_ok mm75_run
-- decani/office.Fits, 11388 steps
noncomputable def mm102 : Ent :=
  ⟨24, [.agg ⟨[iP 6, iP 0, .slice (some ⟨6, 0, none⟩) 2 2, .slice none 0 0, .bool false, .slice none 0 0, .bool false, .slice none 0 0]⟩, .agg ⟨[iP 0, iP 4, iP 1]⟩], 7,
   gB ++ [(6, .cells true 0 [iP 1, iP 2, iP 2, iP 3, iP 3, iP 2])],
   [],
   .tuple ⟨[.bool false, iP 0]⟩⟩
theorem mm102_ok : mm102.okS EE.G = true := by kernel_rfl
theorem mm102_run : evT EE [] 1000000000 (.call mm102.f mm102.args) mm102.heap (keptK mm102) = some (.bool true) := by kernel_rfl
theorem mm102_h : mm102.holds EE := ent_run envOk (fun _ h => by cases h) _ _ mm102_ok mm102_run
-- decani/office.Fits, 8331 steps
noncomputable def mm138 : Ent :=
  ⟨24, [.agg ⟨[iP 6, iP 0, .slice (some ⟨6, 0, none⟩) 2 2, .slice none 0 0, .bool false, .slice none 0 0, .bool false, .slice none 0 0]⟩, .agg ⟨[iP 0, iP 3, iP 1]⟩], 7,
   gB ++ [(6, .cells true 0 [iP 0, iP 0, iP 2, iP 1, iP 1, iP 2])],
   [],
   .tuple ⟨[.bool false, iP 0]⟩⟩
theorem mm138_ok : mm138.okS EE.G = true := by kernel_rfl
theorem mm138_run : evT EE [] 1000000000 (.call mm138.f mm138.args) mm138.heap (keptK mm138) = some (.bool true) := by kernel_rfl
theorem mm138_h : mm138.holds EE := ent_run envOk (fun _ h => by cases h) _ _ mm138_ok mm138_run
-- decani/office.Fits, 6848 steps
noncomputable def mm156 : Ent :=
  ⟨24, [.agg ⟨[iP 6, iP 0, .slice (some ⟨6, 0, none⟩) 2 2, .slice none 0 0, .bool false, .slice none 0 0, .bool false, .slice none 0 0]⟩, .agg ⟨[iP 0, iP 2, iP 1]⟩], 7,
   gB ++ [(6, .cells true 0 [iP 1, iP 2, iP 2, iP 3, iP 4, iP 2])],
   [],
   .tuple ⟨[.bool false, iP 0]⟩⟩
theorem mm156_ok : mm156.okS EE.G = true := by kernel_rfl
theorem mm156_run : evT EE [] 1000000000 (.call mm156.f mm156.args) mm156.heap (keptK mm156) = some (.bool true) := by kernel_rfl
theorem mm156_h : mm156.holds EE := ent_run envOk (fun _ h => by cases h) _ _ mm156_ok mm156_run
-- decani/office.Fits, 6477 steps
noncomputable def mm184 : Ent :=
  ⟨24, [.agg ⟨[iP 6, iP 0, .slice (some ⟨6, 0, none⟩) 2 2, .slice none 0 0, .bool false, .slice none 0 0, .bool false, .slice none 0 0]⟩, .agg ⟨[iP 0, iP 1, iP 1]⟩], 7,
   gB ++ [(6, .cells true 0 [iP 1, iP 1, iP 2, iP 2, iP 3, iP 2])],
   [],
   .tuple ⟨[.bool false, iP 0]⟩⟩
theorem mm184_ok : mm184.okS EE.G = true := by kernel_rfl
theorem mm184_run : evT EE [] 1000000000 (.call mm184.f mm184.args) mm184.heap (keptK mm184) = some (.bool true) := by kernel_rfl
theorem mm184_h : mm184.holds EE := ent_run envOk (fun _ h => by cases h) _ _ mm184_ok mm184_run
-- decani/part.Notes, 3704 steps
noncomputable def mm212 : Ent :=
  ⟨25, [.agg ⟨[iP 1, .slice (some ⟨6, 0, none⟩) 2 2, iP 0, iP 254, iP 0, .slice none 0 0]⟩, iP 1, iP 0], 7,
   gB ++ [(6, .cells true 0 [iP 0, iP 0, iP 1, iP 1])],
   [.cells true 2 [iP 1]],
   .tuple ⟨[.slice (some ⟨7, 0, none⟩) 1 18446744073709551616, iP 0]⟩⟩
theorem mm212_ok : mm212.okS EE.G = true := by kernel_rfl
theorem mm212_run : evT EE [] 1000000000 (.call mm212.f mm212.args) mm212.heap (keptK mm212) = some (.bool true) := by kernel_rfl
theorem mm212_h : mm212.holds EE := ent_run envOk (fun _ h => by cases h) _ _ mm212_ok mm212_run
end Go.Proofs.YtmjpnohpmfmdlaaGreatDoor
