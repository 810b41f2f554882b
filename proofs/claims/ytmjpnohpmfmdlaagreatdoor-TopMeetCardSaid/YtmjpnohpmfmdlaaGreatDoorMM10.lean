/- Known calls, part 10: what single calls hand back, at small heaps, by the kernel's own run of the evaluator. No conditions. -/
import Derived.Test.YtmjpnohpmfmdlaaGreatDoorEnv
set_option linter.all false
namespace Go.Proofs.YtmjpnohpmfmdlaaGreatDoor
open Go.Ai
set_option maxRecDepth 1000000
-- decani/office.Kept, 26542 steps
noncomputable def mm10 : Ent :=
  ⟨11, [.agg ⟨[iP 6, iP 0, .slice (some ⟨6, 0, none⟩) 2 2, .slice none 0 0, .bool false, .slice none 0 0, .bool false, .slice none 0 0]⟩, iP 0, iP 0], 7,
   gB ++ [(6, .cells true 0 [iP 1, iP 2, iP 2, iP 3, iP 4, iP 2])],
   [],
   .tuple ⟨[iP 2, iP 0]⟩⟩
theorem mm10_ok : mm10.okS EE.G = true := by kernel_rfl
theorem mm10_run : evT EE [] 1000000000 (.call mm10.f mm10.args) mm10.heap (keptK mm10) = some (.bool true) := by kernel_rfl
theorem mm10_h : mm10.holds EE := ent_run envOk (fun _ h => by cases h) _ _ mm10_ok mm10_run
-- decani/office.Fits, 14797 steps
noncomputable def mm45 : Ent :=
  ⟨24, [.agg ⟨[iP 6, iP 0, .slice (some ⟨6, 0, none⟩) 2 2, .slice none 0 0, .bool false, .slice none 0 0, .bool false, .slice none 0 0]⟩, .agg ⟨[iP 0, iP 5, iP 1]⟩], 7,
   gB ++ [(6, .cells true 0 [iP 2, iP 3, iP 2, iP 4, iP 5, iP 2])],
   [],
   .tuple ⟨[.bool true, iP 0]⟩⟩
theorem mm45_ok : mm45.okS EE.G = true := by kernel_rfl
theorem mm45_run : evT EE [] 1000000000 (.call mm45.f mm45.args) mm45.heap (keptK mm45) = some (.bool true) := by kernel_rfl
theorem mm45_h : mm45.holds EE := ent_run envOk (fun _ h => by cases h) _ _ mm45_ok mm45_run
-- decani/office.Fits, 11921 steps
noncomputable def mm82 : Ent :=
  ⟨24, [.agg ⟨[iP 6, iP 0, .slice (some ⟨6, 0, none⟩) 2 2, .slice none 0 0, .bool false, .slice none 0 0, .bool false, .slice none 0 0]⟩, .agg ⟨[iP 0, iP 2, iP 1]⟩], 7,
   gB ++ [(6, .cells true 0 [iP 1, iP 1, iP 2, iP 2, iP 2, iP 2])],
   [],
   .tuple ⟨[.bool true, iP 0]⟩⟩
theorem mm82_ok : mm82.okS EE.G = true := by kernel_rfl
theorem mm82_run : evT EE [] 1000000000 (.call mm82.f mm82.args) mm82.heap (keptK mm82) = some (.bool true) := by kernel_rfl
theorem mm82_h : mm82.holds EE := ent_run envOk (fun _ h => by cases h) _ _ mm82_ok mm82_run
-- decani/office.Kept, 11135 steps
noncomputable def mm110 : Ent :=
  ⟨11, [.agg ⟨[iP 6, iP 0, .slice (some ⟨6, 0, none⟩) 2 2, .slice none 0 0, .bool false, .slice none 0 0, .bool false, .slice none 0 0]⟩, iP 0, iP 0], 7,
   gB ++ [(6, .cells true 0 [iP 0, iP 0, iP 2, iP 1, iP 1, iP 2])],
   [],
   .tuple ⟨[iP 2, iP 0]⟩⟩
theorem mm110_ok : mm110.okS EE.G = true := by kernel_rfl
theorem mm110_run : evT EE [] 1000000000 (.call mm110.f mm110.args) mm110.heap (keptK mm110) = some (.bool true) := by kernel_rfl
theorem mm110_h : mm110.holds EE := ent_run envOk (fun _ h => by cases h) _ _ mm110_ok mm110_run
-- decani/office.Fits, 8747 steps
noncomputable def mm132 : Ent :=
  ⟨24, [.agg ⟨[iP 6, iP 0, .slice (some ⟨6, 0, none⟩) 2 2, .slice none 0 0, .bool false, .slice none 0 0, .bool false, .slice none 0 0]⟩, .agg ⟨[iP 0, iP 4, iP 1]⟩], 7,
   gB ++ [(6, .cells true 0 [iP 1, iP 1, iP 2, iP 2, iP 2, iP 2])],
   [],
   .tuple ⟨[.bool false, iP 0]⟩⟩
theorem mm132_ok : mm132.okS EE.G = true := by kernel_rfl
theorem mm132_run : evT EE [] 1000000000 (.call mm132.f mm132.args) mm132.heap (keptK mm132) = some (.bool true) := by kernel_rfl
theorem mm132_h : mm132.holds EE := ent_run envOk (fun _ h => by cases h) _ _ mm132_ok mm132_run
-- decani/office.Fits, 6848 steps
noncomputable def mm163 : Ent :=
  ⟨24, [.agg ⟨[iP 6, iP 0, .slice (some ⟨6, 0, none⟩) 2 2, .slice none 0 0, .bool false, .slice none 0 0, .bool false, .slice none 0 0]⟩, .agg ⟨[iP 0, iP 3, iP 1]⟩], 7,
   gB ++ [(6, .cells true 0 [iP 2, iP 3, iP 2, iP 4, iP 5, iP 2])],
   [],
   .tuple ⟨[.bool false, iP 0]⟩⟩
theorem mm163_ok : mm163.okS EE.G = true := by kernel_rfl
theorem mm163_run : evT EE [] 1000000000 (.call mm163.f mm163.args) mm163.heap (keptK mm163) = some (.bool true) := by kernel_rfl
theorem mm163_h : mm163.holds EE := ent_run envOk (fun _ h => by cases h) _ _ mm163_ok mm163_run
-- decani/part.Notes, 6245 steps
noncomputable def mm194 : Ent :=
  ⟨25, [.agg ⟨[iP 1, .slice (some ⟨6, 0, none⟩) 2 2, iP 0, iP 254, iP 0, .slice none 0 0]⟩, iP 1, iP 0], 7,
   gB ++ [(6, .cells true 0 [iP 0, iP 1, iP 2, iP 3])],
   [.cells true 2 [iP 2, iP 3]],
   .tuple ⟨[.slice (some ⟨7, 0, none⟩) 2 18446744073709551616, iP 0]⟩⟩
theorem mm194_ok : mm194.okS EE.G = true := by kernel_rfl
theorem mm194_run : evT EE [] 1000000000 (.call mm194.f mm194.args) mm194.heap (keptK mm194) = some (.bool true) := by kernel_rfl
theorem mm194_h : mm194.holds EE := ent_run envOk (fun _ h => by cases h) _ _ mm194_ok mm194_run
-- decani/part.Notes, 3704 steps
noncomputable def mm213 : Ent :=
  ⟨25, [.agg ⟨[iP 1, .slice (some ⟨6, 0, none⟩) 2 2, iP 0, iP 254, iP 0, .slice none 0 0]⟩, iP 1, iP 0], 7,
   gB ++ [(6, .cells true 0 [iP 1, iP 1, iP 2, iP 2])],
   [.cells true 2 [iP 2]],
   .tuple ⟨[.slice (some ⟨7, 0, none⟩) 1 18446744073709551616, iP 0]⟩⟩
theorem mm213_ok : mm213.okS EE.G = true := by kernel_rfl
theorem mm213_run : evT EE [] 1000000000 (.call mm213.f mm213.args) mm213.heap (keptK mm213) = some (.bool true) := by kernel_rfl
theorem mm213_h : mm213.holds EE := ent_run envOk (fun _ h => by cases h) _ _ mm213_ok mm213_run
end Go.Proofs.YtmjpnohpmfmdlaaGreatDoor
