/- Known calls, part 17: what single calls hand back, at small heaps, by the kernel's own run of the evaluator. No conditions. -/
import Derived.Test.YtmjpnohpmfmdlaaGreatDoorEnv
set_option linter.all false
namespace Go.Proofs.YtmjpnohpmfmdlaaGreatDoor
open Go.Ai
set_option maxRecDepth 1000000
-- decani/office.Kept, 17330 steps
noncomputable def mm17 : Ent :=
  ⟨11, [.agg ⟨[iP 6, iP 0, .slice (some ⟨6, 0, none⟩) 2 2, .slice none 0 0, .bool false, .slice none 0 0, .bool false, .slice none 0 0]⟩, iP 0, iP 1], 7,
   gB ++ [(6, .cells true 0 [iP 2, iP 2, iP 2, iP 2, iP 3, iP 2])],
   [],
   .tuple ⟨[iP 1, iP 0]⟩⟩
theorem mm17_ok : mm17.okS EE.G = true := by kernel_rfl
theorem mm17_run : evT EE [] 1000000000 (.call mm17.f mm17.args) mm17.heap (keptK mm17) = some (.bool true) := by kernel_rfl
theorem mm17_h : mm17.holds EE := ent_run envOk (fun _ h => by cases h) _ _ mm17_ok mm17_run
-- decani/office.Kept, 16333 steps
noncomputable def mm38 : Ent :=
  ⟨11, [.agg ⟨[iP 6, iP 0, .slice (some ⟨6, 0, none⟩) 2 2, .slice none 0 0, .bool false, .slice none 0 0, .bool false, .slice none 0 0]⟩, iP 0, iP 0], 7,
   gB ++ [(6, .cells true 0 [iP 2, iP 2, iP 2, iP 3, iP 4, iP 2])],
   [],
   .tuple ⟨[iP 2, iP 0]⟩⟩
theorem mm38_ok : mm38.okS EE.G = true := by kernel_rfl
theorem mm38_run : evT EE [] 1000000000 (.call mm38.f mm38.args) mm38.heap (keptK mm38) = some (.bool true) := by kernel_rfl
theorem mm38_h : mm38.holds EE := ent_run envOk (fun _ h => by cases h) _ _ mm38_ok mm38_run
-- decani/office.Fits, 12220 steps
noncomputable def mm65 : Ent :=
  ⟨24, [.agg ⟨[iP 6, iP 0, .slice (some ⟨6, 0, none⟩) 2 2, .slice none 0 0, .bool false, .slice none 0 0, .bool false, .slice none 0 0]⟩, .agg ⟨[iP 0, iP 5, iP 1]⟩], 7,
   gB ++ [(6, .cells true 0 [iP 0, iP 1, iP 2, iP 2, iP 2, iP 2])],
   [],
   .tuple ⟨[.bool false, iP 0]⟩⟩
theorem mm65_ok : mm65.okS EE.G = true := by kernel_rfl
theorem mm65_run : evT EE [] 1000000000 (.call mm65.f mm65.args) mm65.heap (keptK mm65) = some (.bool true) := by kernel_rfl
theorem mm65_h : mm65.holds EE := ent_run envOk (fun _ h => by cases h) _ _ mm65_ok mm65_run
-- decani/office.Fits, 11921 steps
noncomputable def mm84 : Ent :=
  ⟨24, [.agg ⟨[iP 6, iP 0, .slice (some ⟨6, 0, none⟩) 2 2, .slice none 0 0, .bool false, .slice none 0 0, .bool false, .slice none 0 0]⟩, .agg ⟨[iP 0, iP 2, iP 1]⟩], 7,
   gB ++ [(6, .cells true 0 [iP 1, iP 2, iP 2, iP 2, iP 2, iP 2])],
   [],
   .tuple ⟨[.bool true, iP 0]⟩⟩
theorem mm84_ok : mm84.okS EE.G = true := by kernel_rfl
theorem mm84_run : evT EE [] 1000000000 (.call mm84.f mm84.args) mm84.heap (keptK mm84) = some (.bool true) := by kernel_rfl
theorem mm84_h : mm84.holds EE := ent_run envOk (fun _ h => by cases h) _ _ mm84_ok mm84_run
-- decani/office.Fits, 10960 steps
noncomputable def mm112 : Ent :=
  ⟨24, [.agg ⟨[iP 6, iP 0, .slice (some ⟨6, 0, none⟩) 2 2, .slice none 0 0, .bool false, .slice none 0 0, .bool false, .slice none 0 0]⟩, .agg ⟨[iP 0, iP 3, iP 1]⟩], 7,
   gB ++ [(6, .cells true 0 [iP 1, iP 1, iP 2, iP 1, iP 2, iP 2])],
   [],
   .tuple ⟨[.bool false, iP 0]⟩⟩
theorem mm112_ok : mm112.okS EE.G = true := by kernel_rfl
theorem mm112_run : evT EE [] 1000000000 (.call mm112.f mm112.args) mm112.heap (keptK mm112) = some (.bool true) := by kernel_rfl
theorem mm112_h : mm112.holds EE := ent_run envOk (fun _ h => by cases h) _ _ mm112_ok mm112_run
-- decani/office.Fits, 6848 steps
noncomputable def mm155 : Ent :=
  ⟨24, [.agg ⟨[iP 6, iP 0, .slice (some ⟨6, 0, none⟩) 2 2, .slice none 0 0, .bool false, .slice none 0 0, .bool false, .slice none 0 0]⟩, .agg ⟨[iP 0, iP 1, iP 1]⟩], 7,
   gB ++ [(6, .cells true 0 [iP 1, iP 2, iP 2, iP 3, iP 4, iP 2])],
   [],
   .tuple ⟨[.bool false, iP 0]⟩⟩
theorem mm155_ok : mm155.okS EE.G = true := by kernel_rfl
theorem mm155_run : evT EE [] 1000000000 (.call mm155.f mm155.args) mm155.heap (keptK mm155) = some (.bool true) := by kernel_rfl
theorem mm155_h : mm155.holds EE := ent_run envOk (fun _ h => by cases h) _ _ mm155_ok mm155_run
-- decani/office.Fits, 6658 steps
noncomputable def mm179 : Ent :=
  ⟨24, [.agg ⟨[iP 6, iP 0, .slice (some ⟨6, 0, none⟩) 2 2, .slice none 0 0, .bool false, .slice none 0 0, .bool false, .slice none 0 0]⟩, .agg ⟨[iP 0, iP 1, iP 1]⟩], 7,
   gB ++ [(6, .cells true 0 [iP 2, iP 3, iP 2, iP 4, iP 4, iP 2])],
   [],
   .tuple ⟨[.bool false, iP 0]⟩⟩
theorem mm179_ok : mm179.okS EE.G = true := by kernel_rfl
theorem mm179_run : evT EE [] 1000000000 (.call mm179.f mm179.args) mm179.heap (keptK mm179) = some (.bool true) := by kernel_rfl
theorem mm179_h : mm179.holds EE := ent_run envOk (fun _ h => by cases h) _ _ mm179_ok mm179_run
-- decani/part.Notes, 4337 steps
noncomputable def mm207 : Ent :=
  ⟨25, [.agg ⟨[iP 1, .slice (some ⟨6, 0, none⟩) 2 2, iP 0, iP 254, iP 0, .slice none 0 0]⟩, iP 1, iP 0], 7,
   gB ++ [(6, .cells true 0 [iP 1, iP 2, iP 2, iP 2])],
   [.cells true 2 [iP 2]],
   .tuple ⟨[.slice (some ⟨7, 0, none⟩) 1 18446744073709551616, iP 0]⟩⟩
theorem mm207_ok : mm207.okS EE.G = true := by kernel_rfl
theorem mm207_run : evT EE [] 1000000000 (.call mm207.f mm207.args) mm207.heap (keptK mm207) = some (.bool true) := by kernel_rfl
theorem mm207_h : mm207.holds EE := ent_run envOk (fun _ h => by cases h) _ _ mm207_ok mm207_run
-- decani/part.Ways, 2160 steps
noncomputable def mm230 : Ent :=
  ⟨23, [.agg ⟨[iP 1, .slice (some ⟨6, 0, none⟩) 2 2, iP 0, iP 254, iP 0, .slice none 0 0]⟩], 7,
   gB ++ [(6, .cells true 0 [iP 2, iP 2, iP 3, iP 4])],
   [],
   .tuple ⟨[iP 2, iP 0]⟩⟩
theorem mm230_ok : mm230.okS EE.G = true := by kernel_rfl
theorem mm230_run : evT EE [] 1000000000 (.call mm230.f mm230.args) mm230.heap (keptK mm230) = some (.bool true) := by kernel_rfl
theorem mm230_h : mm230.holds EE := ent_run envOk (fun _ h => by cases h) _ _ mm230_ok mm230_run
end Go.Proofs.YtmjpnohpmfmdlaaGreatDoor
