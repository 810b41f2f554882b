/- Known calls, part 18: what single calls hand back, at small heaps, by the kernel's own run of the evaluator. No conditions. -/
import Derived.Test.YtmjpnohpmfmdlaaGreatDoorEnv
set_option linter.all false
namespace Go.Proofs.YtmjpnohpmfmdlaaGreatDoor
open Go.Ai
set_option maxRecDepth 1000000
-- decani/office.Kept, 17279 steps
noncomputable def mm18 : Ent :=
  ⟨11, [.agg ⟨[iP 6, iP 0, .slice (some ⟨6, 0, none⟩) 2 2, .slice none 0 0, .bool false, .slice none 0 0, .bool false, .slice none 0 0]⟩, iP 0, iP 1], 7,
   gB ++ [(6, .cells true 0 [iP 1, iP 1, iP 2, iP 1, iP 2, iP 2])],
   [],
   .tuple ⟨[iP 1, iP 0]⟩⟩
theorem mm18_ok : mm18.okS EE.G = true := by kernel_rfl
theorem mm18_run : evT EE [] 1000000000 (.call mm18.f mm18.args) mm18.heap (keptK mm18) = some (.bool true) := by kernel_rfl
theorem mm18_h : mm18.holds EE := ent_run envOk (fun _ h => by cases h) _ _ mm18_ok mm18_run
-- decani/office.Kept, 16384 steps
noncomputable def mm37 : Ent :=
  ⟨11, [.agg ⟨[iP 6, iP 0, .slice (some ⟨6, 0, none⟩) 2 2, .slice none 0 0, .bool false, .slice none 0 0, .bool false, .slice none 0 0]⟩, iP 0, iP 1], 7,
   gB ++ [(6, .cells true 0 [iP 1, iP 1, iP 2, iP 2, iP 3, iP 2])],
   [],
   .tuple ⟨[iP 2, iP 0]⟩⟩
theorem mm37_ok : mm37.okS EE.G = true := by kernel_rfl
theorem mm37_run : evT EE [] 1000000000 (.call mm37.f mm37.args) mm37.heap (keptK mm37) = some (.bool true) := by kernel_rfl
theorem mm37_h : mm37.holds EE := ent_run envOk (fun _ h => by cases h) _ _ mm37_ok mm37_run
-- decani/office.Fits, 12220 steps
noncomputable def mm66 : Ent :=
  ⟨24, [.agg ⟨[iP 6, iP 0, .slice (some ⟨6, 0, none⟩) 2 2, .slice none 0 0, .bool false, .slice none 0 0, .bool false, .slice none 0 0]⟩, .agg ⟨[iP 0, iP 5, iP 1]⟩], 7,
   gB ++ [(6, .cells true 0 [iP 1, iP 2, iP 2, iP 3, iP 3, iP 2])],
   [],
   .tuple ⟨[.bool false, iP 0]⟩⟩
theorem mm66_ok : mm66.okS EE.G = true := by kernel_rfl
theorem mm66_run : evT EE [] 1000000000 (.call mm66.f mm66.args) mm66.heap (keptK mm66) = some (.bool true) := by kernel_rfl
theorem mm66_h : mm66.holds EE := ent_run envOk (fun _ h => by cases h) _ _ mm66_ok mm66_run
-- decani/office.Fits, 11921 steps
noncomputable def mm85 : Ent :=
  ⟨24, [.agg ⟨[iP 6, iP 0, .slice (some ⟨6, 0, none⟩) 2 2, .slice none 0 0, .bool false, .slice none 0 0, .bool false, .slice none 0 0]⟩, .agg ⟨[iP 0, iP 2, iP 1]⟩], 7,
   gB ++ [(6, .cells true 0 [iP 1, iP 2, iP 2, iP 2, iP 3, iP 2])],
   [],
   .tuple ⟨[.bool true, iP 0]⟩⟩
theorem mm85_ok : mm85.okS EE.G = true := by kernel_rfl
theorem mm85_run : evT EE [] 1000000000 (.call mm85.f mm85.args) mm85.heap (keptK mm85) = some (.bool true) := by kernel_rfl
theorem mm85_h : mm85.holds EE := ent_run envOk (fun _ h => by cases h) _ _ mm85_ok mm85_run
-- decani/office.Fits, 10751 steps
noncomputable def mm113 : Ent :=
  ⟨24, [.agg ⟨[iP 6, iP 0, .slice (some ⟨6, 0, none⟩) 2 2, .slice none 0 0, .bool false, .slice none 0 0, .bool false, .slice none 0 0]⟩, .agg ⟨[iP 0, iP 3, iP 1]⟩], 7,
   gB ++ [(6, .cells true 0 [iP 0, iP 1, iP 2, iP 1, iP 1, iP 2])],
   [],
   .tuple ⟨[.bool false, iP 0]⟩⟩
theorem mm113_ok : mm113.okS EE.G = true := by kernel_rfl
theorem mm113_run : evT EE [] 1000000000 (.call mm113.f mm113.args) mm113.heap (keptK mm113) = some (.bool true) := by kernel_rfl
theorem mm113_h : mm113.holds EE := ent_run envOk (fun _ h => by cases h) _ _ mm113_ok mm113_run
-- decani/office.Fits, 6848 steps
noncomputable def mm153 : Ent :=
  ⟨24, [.agg ⟨[iP 6, iP 0, .slice (some ⟨6, 0, none⟩) 2 2, .slice none 0 0, .bool false, .slice none 0 0, .bool false, .slice none 0 0]⟩, .agg ⟨[iP 0, iP 1, iP 1]⟩], 7,
   gB ++ [(6, .cells true 0 [iP 1, iP 2, iP 2, iP 2, iP 3, iP 2])],
   [],
   .tuple ⟨[.bool false, iP 0]⟩⟩
theorem mm153_ok : mm153.okS EE.G = true := by kernel_rfl
theorem mm153_run : evT EE [] 1000000000 (.call mm153.f mm153.args) mm153.heap (keptK mm153) = some (.bool true) := by kernel_rfl
theorem mm153_h : mm153.holds EE := ent_run envOk (fun _ h => by cases h) _ _ mm153_ok mm153_run
-- decani/office.Fits, 6658 steps
noncomputable def mm175 : Ent :=
  ⟨24, [.agg ⟨[iP 6, iP 0, .slice (some ⟨6, 0, none⟩) 2 2, .slice none 0 0, .bool false, .slice none 0 0, .bool false, .slice none 0 0]⟩, .agg ⟨[iP 0, iP 0, iP 1]⟩], 7,
   gB ++ [(6, .cells true 0 [iP 2, iP 3, iP 2, iP 3, iP 3, iP 2])],
   [],
   .tuple ⟨[.bool false, iP 0]⟩⟩
theorem mm175_ok : mm175.okS EE.G = true := by kernel_rfl
theorem mm175_run : evT EE [] 1000000000 (.call mm175.f mm175.args) mm175.heap (keptK mm175) = some (.bool true) := by kernel_rfl
theorem mm175_h : mm175.holds EE := ent_run envOk (fun _ h => by cases h) _ _ mm175_ok mm175_run
-- decani/part.Notes, 4425 steps
noncomputable def mm203 : Ent :=
  ⟨25, [.agg ⟨[iP 1, .slice (some ⟨6, 0, none⟩) 2 2, iP 0, iP 254, iP 0, .slice none 0 0]⟩, iP 1, iP 0], 7,
   gB ++ [(6, .cells true 0 [iP 0, iP 0, iP 1, iP 2])],
   [.cells true 2 [iP 1, iP 2]],
   .tuple ⟨[.slice (some ⟨7, 0, none⟩) 2 18446744073709551616, iP 0]⟩⟩
theorem mm203_ok : mm203.okS EE.G = true := by kernel_rfl
theorem mm203_run : evT EE [] 1000000000 (.call mm203.f mm203.args) mm203.heap (keptK mm203) = some (.bool true) := by kernel_rfl
theorem mm203_h : mm203.holds EE := ent_run envOk (fun _ h => by cases h) _ _ mm203_ok mm203_run
-- decani/part.Ways, 2550 steps
noncomputable def mm224 : Ent :=
  ⟨23, [.agg ⟨[iP 1, .slice (some ⟨6, 0, none⟩) 2 2, iP 0, iP 254, iP 0, .slice none 0 0]⟩], 7,
   gB ++ [(6, .cells true 0 [iP 2, iP 3, iP 4, iP 4])],
   [],
   .tuple ⟨[iP 2, iP 0]⟩⟩
theorem mm224_ok : mm224.okS EE.G = true := by kernel_rfl
theorem mm224_run : evT EE [] 1000000000 (.call mm224.f mm224.args) mm224.heap (keptK mm224) = some (.bool true) := by kernel_rfl
theorem mm224_h : mm224.holds EE := ent_run envOk (fun _ h => by cases h) _ _ mm224_ok mm224_run
end Go.Proofs.YtmjpnohpmfmdlaaGreatDoor
