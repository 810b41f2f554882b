/- Known calls, part 9: what single calls hand back, at small heaps, by the kernel's own run of the evaluator. No conditions. -/
import Derived.Test.YtmjpnohpmfmdlaaGreatDoorEnv
set_option linter.all false
namespace Go.Proofs.YtmjpnohpmfmdlaaGreatDoor
open Go.Ai
set_option maxRecDepth 1000000
-- decani/office.Kept, 26728 steps
noncomputable def mm9 : Ent :=
  ⟨11, [.agg ⟨[iP 6, iP 0, .slice (some ⟨6, 0, none⟩) 2 2, .slice none 0 0, .bool false, .slice none 0 0, .bool false, .slice none 0 0]⟩, iP 0, iP 0], 7,
   gB ++ [(6, .cells true 0 [iP 0, iP 1, iP 2, iP 1, iP 2, iP 2])],
   [],
   .tuple ⟨[iP 2, iP 0]⟩⟩
theorem mm9_ok : mm9.okS EE.G = true := by kernel_rfl
theorem mm9_run : evT EE [] 1000000000 (.call mm9.f mm9.args) mm9.heap (keptK mm9) = some (.bool true) := by kernel_rfl
theorem mm9_h : mm9.holds EE := ent_run envOk (fun _ h => by cases h) _ _ mm9_ok mm9_run
-- decani/office.Fits, 14550 steps
noncomputable def mm46 : Ent :=
  ⟨24, [.agg ⟨[iP 6, iP 0, .slice (some ⟨6, 0, none⟩) 2 2, .slice none 0 0, .bool false, .slice none 0 0, .bool false, .slice none 0 0]⟩, .agg ⟨[iP 0, iP 3, iP 1]⟩], 7,
   gB ++ [(6, .cells true 0 [iP 2, iP 2, iP 2, iP 2, iP 3, iP 2])],
   [],
   .tuple ⟨[.bool true, iP 0]⟩⟩
theorem mm46_ok : mm46.okS EE.G = true := by kernel_rfl
theorem mm46_run : evT EE [] 1000000000 (.call mm46.f mm46.args) mm46.heap (keptK mm46) = some (.bool true) := by kernel_rfl
theorem mm46_h : mm46.holds EE := ent_run envOk (fun _ h => by cases h) _ _ mm46_ok mm46_run
-- decani/office.Fits, 11921 steps
noncomputable def mm80 : Ent :=
  ⟨24, [.agg ⟨[iP 6, iP 0, .slice (some ⟨6, 0, none⟩) 2 2, .slice none 0 0, .bool false, .slice none 0 0, .bool false, .slice none 0 0]⟩, .agg ⟨[iP 0, iP 2, iP 1]⟩], 7,
   gB ++ [(6, .cells true 0 [iP 0, iP 1, iP 2, iP 2, iP 2, iP 2])],
   [],
   .tuple ⟨[.bool true, iP 0]⟩⟩
theorem mm80_ok : mm80.okS EE.G = true := by kernel_rfl
theorem mm80_run : evT EE [] 1000000000 (.call mm80.f mm80.args) mm80.heap (keptK mm80) = some (.bool true) := by kernel_rfl
theorem mm80_h : mm80.holds EE := ent_run envOk (fun _ h => by cases h) _ _ mm80_ok mm80_run
-- decani/office.Kept, 11186 steps
noncomputable def mm108 : Ent :=
  ⟨11, [.agg ⟨[iP 6, iP 0, .slice (some ⟨6, 0, none⟩) 2 2, .slice none 0 0, .bool false, .slice none 0 0, .bool false, .slice none 0 0]⟩, iP 0, iP 1], 7,
   gB ++ [(6, .cells true 0 [iP 0, iP 0, iP 2, iP 1, iP 1, iP 2])],
   [],
   .tuple ⟨[iP 2, iP 0]⟩⟩
theorem mm108_ok : mm108.okS EE.G = true := by kernel_rfl
theorem mm108_run : evT EE [] 1000000000 (.call mm108.f mm108.args) mm108.heap (keptK mm108) = some (.bool true) := by kernel_rfl
theorem mm108_h : mm108.holds EE := ent_run envOk (fun _ h => by cases h) _ _ mm108_ok mm108_run
-- decani/office.Fits, 8916 steps
noncomputable def mm129 : Ent :=
  ⟨24, [.agg ⟨[iP 6, iP 0, .slice (some ⟨6, 0, none⟩) 2 2, .slice none 0 0, .bool false, .slice none 0 0, .bool false, .slice none 0 0]⟩, .agg ⟨[iP 0, iP 3, iP 1]⟩], 7,
   gB ++ [(6, .cells true 0 [iP 1, iP 1, iP 2, iP 1, iP 1, iP 2])],
   [],
   .tuple ⟨[.bool false, iP 0]⟩⟩
theorem mm129_ok : mm129.okS EE.G = true := by kernel_rfl
theorem mm129_run : evT EE [] 1000000000 (.call mm129.f mm129.args) mm129.heap (keptK mm129) = some (.bool true) := by kernel_rfl
theorem mm129_h : mm129.holds EE := ent_run envOk (fun _ h => by cases h) _ _ mm129_ok mm129_run
-- decani/office.Fits, 6772 steps
noncomputable def mm166 : Ent :=
  ⟨24, [.agg ⟨[iP 6, iP 0, .slice (some ⟨6, 0, none⟩) 2 2, .slice none 0 0, .bool false, .slice none 0 0, .bool false, .slice none 0 0]⟩, .agg ⟨[iP 0, iP 1, iP 1]⟩], 7,
   gB ++ [(6, .cells true 0 [iP 2, iP 2, iP 2, iP 2, iP 2, iP 2])],
   [],
   .tuple ⟨[.bool false, iP 0]⟩⟩
theorem mm166_ok : mm166.okS EE.G = true := by kernel_rfl
theorem mm166_run : evT EE [] 1000000000 (.call mm166.f mm166.args) mm166.heap (keptK mm166) = some (.bool true) := by kernel_rfl
theorem mm166_h : mm166.holds EE := ent_run envOk (fun _ h => by cases h) _ _ mm166_ok mm166_run
-- decani/part.Notes, 6245 steps
noncomputable def mm195 : Ent :=
  ⟨25, [.agg ⟨[iP 1, .slice (some ⟨6, 0, none⟩) 2 2, iP 0, iP 254, iP 0, .slice none 0 0]⟩, iP 1, iP 0], 7,
   gB ++ [(6, .cells true 0 [iP 1, iP 2, iP 3, iP 4])],
   [.cells true 2 [iP 3, iP 4]],
   .tuple ⟨[.slice (some ⟨7, 0, none⟩) 2 18446744073709551616, iP 0]⟩⟩
theorem mm195_ok : mm195.okS EE.G = true := by kernel_rfl
theorem mm195_run : evT EE [] 1000000000 (.call mm195.f mm195.args) mm195.heap (keptK mm195) = some (.bool true) := by kernel_rfl
theorem mm195_h : mm195.holds EE := ent_run envOk (fun _ h => by cases h) _ _ mm195_ok mm195_run
-- decani/part.Ways, 3261 steps
noncomputable def mm219 : Ent :=
  ⟨23, [.agg ⟨[iP 1, .slice (some ⟨6, 0, none⟩) 2 2, iP 0, iP 254, iP 0, .slice none 0 0]⟩], 7,
   gB ++ [(6, .cells true 0 [iP 0, iP 1, iP 1, iP 2])],
   [],
   .tuple ⟨[iP 3, iP 0]⟩⟩
theorem mm219_ok : mm219.okS EE.G = true := by kernel_rfl
theorem mm219_run : evT EE [] 1000000000 (.call mm219.f mm219.args) mm219.heap (keptK mm219) = some (.bool true) := by kernel_rfl
theorem mm219_h : mm219.holds EE := ent_run envOk (fun _ h => by cases h) _ _ mm219_ok mm219_run
end Go.Proofs.YtmjpnohpmfmdlaaGreatDoor
