/- Known calls, part 26: what single calls hand back, at small heaps, by the kernel's own run of the evaluator. No conditions. -/
import Derived.Test.YtmjpnohpmfmdlaaGreatDoorEnv
set_option linter.all false
namespace Go.Proofs.YtmjpnohpmfmdlaaGreatDoor
open Go.Ai
set_option maxRecDepth 1000000
-- decani/office.Kept, 16893 steps
noncomputable def mm26 : Ent :=
  ⟨11, [.agg ⟨[iP 6, iP 0, .slice (some ⟨6, 0, none⟩) 2 2, .slice none 0 0, .bool false, .slice none 0 0, .bool false, .slice none 0 0]⟩, iP 0, iP 0], 7,
   gB ++ [(6, .cells true 0 [iP 2, iP 3, iP 2, iP 3, iP 3, iP 2])],
   [],
   .tuple ⟨[iP 2, iP 0]⟩⟩
theorem mm26_ok : mm26.okS EE.G = true := by kernel_rfl
theorem mm26_run : evT EE [] 1000000000 (.call mm26.f mm26.args) mm26.heap (keptK mm26) = some (.bool true) := by kernel_rfl
theorem mm26_h : mm26.holds EE := ent_run envOk (fun _ h => by cases h) _ _ mm26_ok mm26_run
-- decani/office.Kept, 16656 steps
noncomputable def mm29 : Ent :=
  ⟨11, [.agg ⟨[iP 6, iP 0, .slice (some ⟨6, 0, none⟩) 2 2, .slice none 0 0, .bool false, .slice none 0 0, .bool false, .slice none 0 0]⟩, iP 0, iP 1], 7,
   gB ++ [(6, .cells true 0 [iP 2, iP 3, iP 2, iP 4, iP 4, iP 2])],
   [],
   .tuple ⟨[iP 2, iP 0]⟩⟩
theorem mm29_ok : mm29.okS EE.G = true := by kernel_rfl
theorem mm29_run : evT EE [] 1000000000 (.call mm29.f mm29.args) mm29.heap (keptK mm29) = some (.bool true) := by kernel_rfl
theorem mm29_h : mm29.holds EE := ent_run envOk (fun _ h => by cases h) _ _ mm29_ok mm29_run
-- decani/office.Fits, 12415 steps
noncomputable def mm62 : Ent :=
  ⟨24, [.agg ⟨[iP 6, iP 0, .slice (some ⟨6, 0, none⟩) 2 2, .slice none 0 0, .bool false, .slice none 0 0, .bool false, .slice none 0 0]⟩, .agg ⟨[iP 0, iP 5, iP 1]⟩], 7,
   gB ++ [(6, .cells true 0 [iP 0, iP 1, iP 2, iP 1, iP 1, iP 2])],
   [],
   .tuple ⟨[.bool false, iP 0]⟩⟩
theorem mm62_ok : mm62.okS EE.G = true := by kernel_rfl
theorem mm62_run : evT EE [] 1000000000 (.call mm62.f mm62.args) mm62.heap (keptK mm62) = some (.bool true) := by kernel_rfl
theorem mm62_h : mm62.holds EE := ent_run envOk (fun _ h => by cases h) _ _ mm62_ok mm62_run
-- decani/office.Fits, 11921 steps
noncomputable def mm86 : Ent :=
  ⟨24, [.agg ⟨[iP 6, iP 0, .slice (some ⟨6, 0, none⟩) 2 2, .slice none 0 0, .bool false, .slice none 0 0, .bool false, .slice none 0 0]⟩, .agg ⟨[iP 0, iP 3, iP 1]⟩], 7,
   gB ++ [(6, .cells true 0 [iP 1, iP 2, iP 2, iP 3, iP 3, iP 2])],
   [],
   .tuple ⟨[.bool true, iP 0]⟩⟩
theorem mm86_ok : mm86.okS EE.G = true := by kernel_rfl
theorem mm86_run : evT EE [] 1000000000 (.call mm86.f mm86.args) mm86.heap (keptK mm86) = some (.bool true) := by kernel_rfl
theorem mm86_h : mm86.holds EE := ent_run envOk (fun _ h => by cases h) _ _ mm86_ok mm86_run
-- decani/office.Fits, 10751 steps
noncomputable def mm114 : Ent :=
  ⟨24, [.agg ⟨[iP 6, iP 0, .slice (some ⟨6, 0, none⟩) 2 2, .slice none 0 0, .bool false, .slice none 0 0, .bool false, .slice none 0 0]⟩, .agg ⟨[iP 0, iP 3, iP 1]⟩], 7,
   gB ++ [(6, .cells true 0 [iP 1, iP 2, iP 2, iP 2, iP 2, iP 2])],
   [],
   .tuple ⟨[.bool false, iP 0]⟩⟩
theorem mm114_ok : mm114.okS EE.G = true := by kernel_rfl
theorem mm114_run : evT EE [] 1000000000 (.call mm114.f mm114.args) mm114.heap (keptK mm114) = some (.bool true) := by kernel_rfl
theorem mm114_h : mm114.holds EE := ent_run envOk (fun _ h => by cases h) _ _ mm114_ok mm114_run
-- decani/office.Fits, 6848 steps
noncomputable def mm154 : Ent :=
  ⟨24, [.agg ⟨[iP 6, iP 0, .slice (some ⟨6, 0, none⟩) 2 2, .slice none 0 0, .bool false, .slice none 0 0, .bool false, .slice none 0 0]⟩, .agg ⟨[iP 0, iP 0, iP 1]⟩], 7,
   gB ++ [(6, .cells true 0 [iP 1, iP 2, iP 2, iP 3, iP 4, iP 2])],
   [],
   .tuple ⟨[.bool false, iP 0]⟩⟩
theorem mm154_ok : mm154.okS EE.G = true := by kernel_rfl
theorem mm154_run : evT EE [] 1000000000 (.call mm154.f mm154.args) mm154.heap (keptK mm154) = some (.bool true) := by kernel_rfl
theorem mm154_h : mm154.holds EE := ent_run envOk (fun _ h => by cases h) _ _ mm154_ok mm154_run
-- decani/office.Fits, 6658 steps
noncomputable def mm176 : Ent :=
  ⟨24, [.agg ⟨[iP 6, iP 0, .slice (some ⟨6, 0, none⟩) 2 2, .slice none 0 0, .bool false, .slice none 0 0, .bool false, .slice none 0 0]⟩, .agg ⟨[iP 0, iP 1, iP 1]⟩], 7,
   gB ++ [(6, .cells true 0 [iP 2, iP 3, iP 2, iP 3, iP 3, iP 2])],
   [],
   .tuple ⟨[.bool false, iP 0]⟩⟩
theorem mm176_ok : mm176.okS EE.G = true := by kernel_rfl
theorem mm176_run : evT EE [] 1000000000 (.call mm176.f mm176.args) mm176.heap (keptK mm176) = some (.bool true) := by kernel_rfl
theorem mm176_h : mm176.holds EE := ent_run envOk (fun _ h => by cases h) _ _ mm176_ok mm176_run
-- decani/part.Notes, 4425 steps
noncomputable def mm204 : Ent :=
  ⟨25, [.agg ⟨[iP 1, .slice (some ⟨6, 0, none⟩) 2 2, iP 0, iP 254, iP 0, .slice none 0 0]⟩, iP 1, iP 0], 7,
   gB ++ [(6, .cells true 0 [iP 1, iP 1, iP 2, iP 3])],
   [.cells true 2 [iP 2, iP 3]],
   .tuple ⟨[.slice (some ⟨7, 0, none⟩) 2 18446744073709551616, iP 0]⟩⟩
theorem mm204_ok : mm204.okS EE.G = true := by kernel_rfl
theorem mm204_run : evT EE [] 1000000000 (.call mm204.f mm204.args) mm204.heap (keptK mm204) = some (.bool true) := by kernel_rfl
theorem mm204_h : mm204.holds EE := ent_run envOk (fun _ h => by cases h) _ _ mm204_ok mm204_run
-- decani/part.Ways, 2160 steps
noncomputable def mm228 : Ent :=
  ⟨23, [.agg ⟨[iP 1, .slice (some ⟨6, 0, none⟩) 2 2, iP 0, iP 254, iP 0, .slice none 0 0]⟩], 7,
   gB ++ [(6, .cells true 0 [iP 0, iP 0, iP 1, iP 2])],
   [],
   .tuple ⟨[iP 2, iP 0]⟩⟩
theorem mm228_ok : mm228.okS EE.G = true := by kernel_rfl
theorem mm228_run : evT EE [] 1000000000 (.call mm228.f mm228.args) mm228.heap (keptK mm228) = some (.bool true) := by kernel_rfl
theorem mm228_h : mm228.holds EE := ent_run envOk (fun _ h => by cases h) _ _ mm228_ok mm228_run
end Go.Proofs.YtmjpnohpmfmdlaaGreatDoor
