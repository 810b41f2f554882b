/- Known calls, part 27: what single calls hand back, at small heaps, by the kernel's own run of the evaluator. No conditions. -/
import Derived.Test.YtmjpnohpmfmdlaaGreatDoorEnv
set_option linter.all false
namespace Go.Proofs.YtmjpnohpmfmdlaaGreatDoor
open Go.Ai
set_option maxRecDepth 1000000
-- decani/office.Kept, 16791 steps
noncomputable def mm27 : Ent :=
  ⟨11, [.agg ⟨[iP 6, iP 0, .slice (some ⟨6, 0, none⟩) 2 2, .slice none 0 0, .bool false, .slice none 0 0, .bool false, .slice none 0 0]⟩, iP 0, iP 0], 7,
   gB ++ [(6, .cells true 0 [iP 1, iP 2, iP 2, iP 2, iP 2, iP 2])],
   [],
   .tuple ⟨[iP 2, iP 0]⟩⟩
theorem mm27_ok : mm27.okS EE.G = true := by kernel_rfl
theorem mm27_run : evT EE [] 1000000000 (.call mm27.f mm27.args) mm27.heap (keptK mm27) = some (.bool true) := by kernel_rfl
theorem mm27_h : mm27.holds EE := ent_run envOk (fun _ h => by cases h) _ _ mm27_ok mm27_run
-- decani/office.Kept, 16689 steps
noncomputable def mm28 : Ent :=
  ⟨11, [.agg ⟨[iP 6, iP 0, .slice (some ⟨6, 0, none⟩) 2 2, .slice none 0 0, .bool false, .slice none 0 0, .bool false, .slice none 0 0]⟩, iP 0, iP 0], 7,
   gB ++ [(6, .cells true 0 [iP 0, iP 1, iP 2, iP 1, iP 1, iP 2])],
   [],
   .tuple ⟨[iP 2, iP 0]⟩⟩
theorem mm28_ok : mm28.okS EE.G = true := by kernel_rfl
theorem mm28_run : evT EE [] 1000000000 (.call mm28.f mm28.args) mm28.heap (keptK mm28) = some (.bool true) := by kernel_rfl
theorem mm28_h : mm28.holds EE := ent_run envOk (fun _ h => by cases h) _ _ mm28_ok mm28_run
-- decani/office.Fits, 13549 steps
noncomputable def mm58 : Ent :=
  ⟨24, [.agg ⟨[iP 6, iP 0, .slice (some ⟨6, 0, none⟩) 2 2, .slice none 0 0, .bool false, .slice none 0 0, .bool false, .slice none 0 0]⟩, .agg ⟨[iP 0, iP 2, iP 1]⟩], 7,
   gB ++ [(6, .cells true 0 [iP 0, iP 1, iP 2, iP 1, iP 2, iP 2])],
   [],
   .tuple ⟨[.bool true, iP 0]⟩⟩
theorem mm58_ok : mm58.okS EE.G = true := by kernel_rfl
theorem mm58_run : evT EE [] 1000000000 (.call mm58.f mm58.args) mm58.heap (keptK mm58) = some (.bool true) := by kernel_rfl
theorem mm58_h : mm58.holds EE := ent_run envOk (fun _ h => by cases h) _ _ mm58_ok mm58_run
-- decani/office.Fits, 11583 steps
noncomputable def mm98 : Ent :=
  ⟨24, [.agg ⟨[iP 6, iP 0, .slice (some ⟨6, 0, none⟩) 2 2, .slice none 0 0, .bool false, .slice none 0 0, .bool false, .slice none 0 0]⟩, .agg ⟨[iP 0, iP 4, iP 1]⟩], 7,
   gB ++ [(6, .cells true 0 [iP 0, iP 1, iP 2, iP 1, iP 1, iP 2])],
   [],
   .tuple ⟨[.bool false, iP 0]⟩⟩
theorem mm98_ok : mm98.okS EE.G = true := by kernel_rfl
theorem mm98_run : evT EE [] 1000000000 (.call mm98.f mm98.args) mm98.heap (keptK mm98) = some (.bool true) := by kernel_rfl
theorem mm98_h : mm98.holds EE := ent_run envOk (fun _ h => by cases h) _ _ mm98_ok mm98_run
-- decani/office.Fits, 9163 steps
noncomputable def mm125 : Ent :=
  ⟨24, [.agg ⟨[iP 6, iP 0, .slice (some ⟨6, 0, none⟩) 2 2, .slice none 0 0, .bool false, .slice none 0 0, .bool false, .slice none 0 0]⟩, .agg ⟨[iP 0, iP 5, iP 1]⟩], 7,
   gB ++ [(6, .cells true 0 [iP 0, iP 0, iP 2, iP 1, iP 1, iP 2])],
   [],
   .tuple ⟨[.bool false, iP 0]⟩⟩
theorem mm125_ok : mm125.okS EE.G = true := by kernel_rfl
theorem mm125_run : evT EE [] 1000000000 (.call mm125.f mm125.args) mm125.heap (keptK mm125) = some (.bool true) := by kernel_rfl
theorem mm125_h : mm125.holds EE := ent_run envOk (fun _ h => by cases h) _ _ mm125_ok mm125_run
-- decani/office.Fits, 7915 steps
noncomputable def mm143 : Ent :=
  ⟨24, [.agg ⟨[iP 6, iP 0, .slice (some ⟨6, 0, none⟩) 2 2, .slice none 0 0, .bool false, .slice none 0 0, .bool false, .slice none 0 0]⟩, .agg ⟨[iP 0, iP 2, iP 1]⟩], 7,
   gB ++ [(6, .cells true 0 [iP 0, iP 0, iP 2, iP 1, iP 1, iP 2])],
   [],
   .tuple ⟨[.bool false, iP 0]⟩⟩
theorem mm143_ok : mm143.okS EE.G = true := by kernel_rfl
theorem mm143_run : evT EE [] 1000000000 (.call mm143.f mm143.args) mm143.heap (keptK mm143) = some (.bool true) := by kernel_rfl
theorem mm143_h : mm143.holds EE := ent_run envOk (fun _ h => by cases h) _ _ mm143_ok mm143_run
-- decani/office.Fits, 6658 steps
noncomputable def mm180 : Ent :=
  ⟨24, [.agg ⟨[iP 6, iP 0, .slice (some ⟨6, 0, none⟩) 2 2, .slice none 0 0, .bool false, .slice none 0 0, .bool false, .slice none 0 0]⟩, .agg ⟨[iP 0, iP 2, iP 1]⟩], 7,
   gB ++ [(6, .cells true 0 [iP 2, iP 3, iP 2, iP 4, iP 4, iP 2])],
   [],
   .tuple ⟨[.bool false, iP 0]⟩⟩
theorem mm180_ok : mm180.okS EE.G = true := by kernel_rfl
theorem mm180_run : evT EE [] 1000000000 (.call mm180.f mm180.args) mm180.heap (keptK mm180) = some (.bool true) := by kernel_rfl
theorem mm180_h : mm180.holds EE := ent_run envOk (fun _ h => by cases h) _ _ mm180_ok mm180_run
-- decani/part.Notes, 4190 steps
noncomputable def mm209 : Ent :=
  ⟨25, [.agg ⟨[iP 1, .slice (some ⟨6, 0, none⟩) 2 2, iP 0, iP 254, iP 0, .slice none 0 0]⟩, iP 1, iP 0], 7,
   gB ++ [(6, .cells true 0 [iP 1, iP 1, iP 1, iP 2])],
   [.cells true 2 [iP 2]],
   .tuple ⟨[.slice (some ⟨7, 0, none⟩) 1 18446744073709551616, iP 0]⟩⟩
theorem mm209_ok : mm209.okS EE.G = true := by kernel_rfl
theorem mm209_run : evT EE [] 1000000000 (.call mm209.f mm209.args) mm209.heap (keptK mm209) = some (.bool true) := by kernel_rfl
theorem mm209_h : mm209.holds EE := ent_run envOk (fun _ h => by cases h) _ _ mm209_ok mm209_run
-- decani/part.Ways, 2325 steps
noncomputable def mm226 : Ent :=
  ⟨23, [.agg ⟨[iP 1, .slice (some ⟨6, 0, none⟩) 2 2, iP 0, iP 254, iP 0, .slice none 0 0]⟩], 7,
   gB ++ [(6, .cells true 0 [iP 1, iP 2, iP 2, iP 2])],
   [],
   .tuple ⟨[iP 1, iP 0]⟩⟩
theorem mm226_ok : mm226.okS EE.G = true := by kernel_rfl
theorem mm226_run : evT EE [] 1000000000 (.call mm226.f mm226.args) mm226.heap (keptK mm226) = some (.bool true) := by kernel_rfl
theorem mm226_h : mm226.holds EE := ent_run envOk (fun _ h => by cases h) _ _ mm226_ok mm226_run
end Go.Proofs.YtmjpnohpmfmdlaaGreatDoor
