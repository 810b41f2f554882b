/- Known calls, part 20: what single calls hand back, at small heaps, by the kernel's own run of the evaluator. No conditions. -/
import Derived.Test.YtmjpnohpmfmdlaaGreatDoorEnv
set_option linter.all false
namespace Go.Proofs.YtmjpnohpmfmdlaaGreatDoor
open Go.Ai
set_option maxRecDepth 1000000
-- decani/office.Kept, 17113 steps
noncomputable def mm20 : Ent :=
  ⟨11, [.agg ⟨[iP 6, iP 0, .slice (some ⟨6, 0, none⟩) 2 2, .slice none 0 0, .bool false, .slice none 0 0, .bool false, .slice none 0 0]⟩, iP 0, iP 0], 7,
   gB ++ [(6, .cells true 0 [iP 2, iP 2, iP 2, iP 2, iP 3, iP 2])],
   [],
   .tuple ⟨[iP 2, iP 0]⟩⟩
theorem mm20_ok : mm20.okS EE.G = true := by kernel_rfl
theorem mm20_run : evT EE [] 1000000000 (.call mm20.f mm20.args) mm20.heap (keptK mm20) = some (.bool true) := by kernel_rfl
theorem mm20_h : mm20.holds EE := ent_run envOk (fun _ h => by cases h) _ _ mm20_ok mm20_run
-- decani/office.Kept, 16452 steps
noncomputable def mm35 : Ent :=
  ⟨11, [.agg ⟨[iP 6, iP 0, .slice (some ⟨6, 0, none⟩) 2 2, .slice none 0 0, .bool false, .slice none 0 0, .bool false, .slice none 0 0]⟩, iP 0, iP 1], 7,
   gB ++ [(6, .cells true 0 [iP 0, iP 1, iP 2, iP 2, iP 2, iP 2])],
   [],
   .tuple ⟨[iP 2, iP 0]⟩⟩
theorem mm35_ok : mm35.okS EE.G = true := by kernel_rfl
theorem mm35_run : evT EE [] 1000000000 (.call mm35.f mm35.args) mm35.heap (keptK mm35) = some (.bool true) := by kernel_rfl
theorem mm35_h : mm35.holds EE := ent_run envOk (fun _ h => by cases h) _ _ mm35_ok mm35_run
-- decani/office.Fits, 12415 steps
noncomputable def mm63 : Ent :=
  ⟨24, [.agg ⟨[iP 6, iP 0, .slice (some ⟨6, 0, none⟩) 2 2, .slice none 0 0, .bool false, .slice none 0 0, .bool false, .slice none 0 0]⟩, .agg ⟨[iP 0, iP 5, iP 1]⟩], 7,
   gB ++ [(6, .cells true 0 [iP 1, iP 2, iP 2, iP 2, iP 2, iP 2])],
   [],
   .tuple ⟨[.bool false, iP 0]⟩⟩
theorem mm63_ok : mm63.okS EE.G = true := by kernel_rfl
theorem mm63_run : evT EE [] 1000000000 (.call mm63.f mm63.args) mm63.heap (keptK mm63) = some (.bool true) := by kernel_rfl
theorem mm63_h : mm63.holds EE := ent_run envOk (fun _ h => by cases h) _ _ mm63_ok mm63_run
-- decani/office.Fits, 11921 steps
noncomputable def mm87 : Ent :=
  ⟨24, [.agg ⟨[iP 6, iP 0, .slice (some ⟨6, 0, none⟩) 2 2, .slice none 0 0, .bool false, .slice none 0 0, .bool false, .slice none 0 0]⟩, .agg ⟨[iP 0, iP 3, iP 1]⟩], 7,
   gB ++ [(6, .cells true 0 [iP 1, iP 2, iP 2, iP 3, iP 4, iP 2])],
   [],
   .tuple ⟨[.bool true, iP 0]⟩⟩
theorem mm87_ok : mm87.okS EE.G = true := by kernel_rfl
theorem mm87_run : evT EE [] 1000000000 (.call mm87.f mm87.args) mm87.heap (keptK mm87) = some (.bool true) := by kernel_rfl
theorem mm87_h : mm87.holds EE := ent_run envOk (fun _ h => by cases h) _ _ mm87_ok mm87_run
-- decani/office.Fits, 10556 steps
noncomputable def mm115 : Ent :=
  ⟨24, [.agg ⟨[iP 6, iP 0, .slice (some ⟨6, 0, none⟩) 2 2, .slice none 0 0, .bool false, .slice none 0 0, .bool false, .slice none 0 0]⟩, .agg ⟨[iP 0, iP 3, iP 1]⟩], 7,
   gB ++ [(6, .cells true 0 [iP 0, iP 1, iP 2, iP 2, iP 2, iP 2])],
   [],
   .tuple ⟨[.bool false, iP 0]⟩⟩
theorem mm115_ok : mm115.okS EE.G = true := by kernel_rfl
theorem mm115_run : evT EE [] 1000000000 (.call mm115.f mm115.args) mm115.heap (keptK mm115) = some (.bool true) := by kernel_rfl
theorem mm115_h : mm115.holds EE := ent_run envOk (fun _ h => by cases h) _ _ mm115_ok mm115_run
-- decani/office.Fits, 6848 steps
noncomputable def mm152 : Ent :=
  ⟨24, [.agg ⟨[iP 6, iP 0, .slice (some ⟨6, 0, none⟩) 2 2, .slice none 0 0, .bool false, .slice none 0 0, .bool false, .slice none 0 0]⟩, .agg ⟨[iP 0, iP 0, iP 1]⟩], 7,
   gB ++ [(6, .cells true 0 [iP 1, iP 2, iP 2, iP 2, iP 3, iP 2])],
   [],
   .tuple ⟨[.bool false, iP 0]⟩⟩
theorem mm152_ok : mm152.okS EE.G = true := by kernel_rfl
theorem mm152_run : evT EE [] 1000000000 (.call mm152.f mm152.args) mm152.heap (keptK mm152) = some (.bool true) := by kernel_rfl
theorem mm152_h : mm152.holds EE := ent_run envOk (fun _ h => by cases h) _ _ mm152_ok mm152_run
-- decani/office.Fits, 6658 steps
noncomputable def mm174 : Ent :=
  ⟨24, [.agg ⟨[iP 6, iP 0, .slice (some ⟨6, 0, none⟩) 2 2, .slice none 0 0, .bool false, .slice none 0 0, .bool false, .slice none 0 0]⟩, .agg ⟨[iP 0, iP 2, iP 1]⟩], 7,
   gB ++ [(6, .cells true 0 [iP 1, iP 2, iP 2, iP 3, iP 3, iP 2])],
   [],
   .tuple ⟨[.bool false, iP 0]⟩⟩
theorem mm174_ok : mm174.okS EE.G = true := by kernel_rfl
theorem mm174_run : evT EE [] 1000000000 (.call mm174.f mm174.args) mm174.heap (keptK mm174) = some (.bool true) := by kernel_rfl
theorem mm174_h : mm174.holds EE := ent_run envOk (fun _ h => by cases h) _ _ mm174_ok mm174_run
-- decani/part.Notes, 4809 steps
noncomputable def mm202 : Ent :=
  ⟨25, [.agg ⟨[iP 1, .slice (some ⟨6, 0, none⟩) 2 2, iP 0, iP 254, iP 0, .slice none 0 0]⟩, iP 1, iP 0], 7,
   gB ++ [(6, .cells true 0 [iP 2, iP 3, iP 4, iP 4])],
   [.cells true 2 [iP 4]],
   .tuple ⟨[.slice (some ⟨7, 0, none⟩) 1 18446744073709551616, iP 0]⟩⟩
theorem mm202_ok : mm202.okS EE.G = true := by kernel_rfl
theorem mm202_run : evT EE [] 1000000000 (.call mm202.f mm202.args) mm202.heap (keptK mm202) = some (.bool true) := by kernel_rfl
theorem mm202_h : mm202.holds EE := ent_run envOk (fun _ h => by cases h) _ _ mm202_ok mm202_run
-- decani/part.Ways, 1692 steps
noncomputable def mm235 : Ent :=
  ⟨23, [.agg ⟨[iP 1, .slice (some ⟨6, 0, none⟩) 2 2, iP 0, iP 254, iP 0, .slice none 0 0]⟩], 7,
   gB ++ [(6, .cells true 0 [iP 1, iP 1, iP 2, iP 2])],
   [],
   .tuple ⟨[iP 1, iP 0]⟩⟩
theorem mm235_ok : mm235.okS EE.G = true := by kernel_rfl
theorem mm235_run : evT EE [] 1000000000 (.call mm235.f mm235.args) mm235.heap (keptK mm235) = some (.bool true) := by kernel_rfl
theorem mm235_h : mm235.holds EE := ent_run envOk (fun _ h => by cases h) _ _ mm235_ok mm235_run
-- decani/part.Ways, 1467 steps
noncomputable def mm241 : Ent :=
  ⟨23, [.agg ⟨[iP 1, .slice (some ⟨6, 0, none⟩) 2 2, iP 0, iP 254, iP 0, .slice none 0 0]⟩], 7,
   gB ++ [(6, .cells true 0 [iP 1, iP 1, iP 1, iP 1])],
   [],
   .tuple ⟨[iP 0, iP 0]⟩⟩
theorem mm241_ok : mm241.okS EE.G = true := by kernel_rfl
theorem mm241_run : evT EE [] 1000000000 (.call mm241.f mm241.args) mm241.heap (keptK mm241) = some (.bool true) := by kernel_rfl
theorem mm241_h : mm241.holds EE := ent_run envOk (fun _ h => by cases h) _ _ mm241_ok mm241_run
end Go.Proofs.YtmjpnohpmfmdlaaGreatDoor
