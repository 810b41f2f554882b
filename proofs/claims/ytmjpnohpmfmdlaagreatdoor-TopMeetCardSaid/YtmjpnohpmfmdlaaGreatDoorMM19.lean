/- Known calls, part 19: what single calls hand back, at small heaps, by the kernel's own run of the evaluator. No conditions. -/
import Derived.Test.YtmjpnohpmfmdlaaGreatDoorEnv
set_option linter.all false
namespace Go.Proofs.YtmjpnohpmfmdlaaGreatDoor
open Go.Ai
set_option maxRecDepth 1000000
-- decani/office.Kept, 17228 steps
noncomputable def mm19 : Ent :=
  ⟨11, [.agg ⟨[iP 6, iP 0, .slice (some ⟨6, 0, none⟩) 2 2, .slice none 0 0, .bool false, .slice none 0 0, .bool false, .slice none 0 0]⟩, iP 0, iP 1], 7,
   gB ++ [(6, .cells true 0 [iP 0, iP 0, iP 2, iP 0, iP 1, iP 2])],
   [],
   .tuple ⟨[iP 1, iP 0]⟩⟩
theorem mm19_ok : mm19.okS EE.G = true := by kernel_rfl
theorem mm19_run : evT EE [] 1000000000 (.call mm19.f mm19.args) mm19.heap (keptK mm19) = some (.bool true) := by kernel_rfl
theorem mm19_h : mm19.holds EE := ent_run envOk (fun _ h => by cases h) _ _ mm19_ok mm19_run
-- decani/office.Kept, 16401 steps
noncomputable def mm36 : Ent :=
  ⟨11, [.agg ⟨[iP 6, iP 0, .slice (some ⟨6, 0, none⟩) 2 2, .slice none 0 0, .bool false, .slice none 0 0, .bool false, .slice none 0 0]⟩, iP 0, iP 0], 7,
   gB ++ [(6, .cells true 0 [iP 1, iP 2, iP 2, iP 3, iP 3, iP 2])],
   [],
   .tuple ⟨[iP 2, iP 0]⟩⟩
theorem mm36_ok : mm36.okS EE.G = true := by kernel_rfl
theorem mm36_run : evT EE [] 1000000000 (.call mm36.f mm36.args) mm36.heap (keptK mm36) = some (.bool true) := by kernel_rfl
theorem mm36_h : mm36.holds EE := ent_run envOk (fun _ h => by cases h) _ _ mm36_ok mm36_run
-- decani/office.Fits, 12415 steps
noncomputable def mm64 : Ent :=
  ⟨24, [.agg ⟨[iP 6, iP 0, .slice (some ⟨6, 0, none⟩) 2 2, .slice none 0 0, .bool false, .slice none 0 0, .bool false, .slice none 0 0]⟩, .agg ⟨[iP 0, iP 5, iP 1]⟩], 7,
   gB ++ [(6, .cells true 0 [iP 2, iP 3, iP 2, iP 3, iP 3, iP 2])],
   [],
   .tuple ⟨[.bool false, iP 0]⟩⟩
theorem mm64_ok : mm64.okS EE.G = true := by kernel_rfl
theorem mm64_run : evT EE [] 1000000000 (.call mm64.f mm64.args) mm64.heap (keptK mm64) = some (.bool true) := by kernel_rfl
theorem mm64_h : mm64.holds EE := ent_run envOk (fun _ h => by cases h) _ _ mm64_ok mm64_run
-- decani/office.Fits, 11921 steps
noncomputable def mm88 : Ent :=
  ⟨24, [.agg ⟨[iP 6, iP 0, .slice (some ⟨6, 0, none⟩) 2 2, .slice none 0 0, .bool false, .slice none 0 0, .bool false, .slice none 0 0]⟩, .agg ⟨[iP 0, iP 3, iP 1]⟩], 7,
   gB ++ [(6, .cells true 0 [iP 2, iP 2, iP 2, iP 3, iP 3, iP 2])],
   [],
   .tuple ⟨[.bool true, iP 0]⟩⟩
theorem mm88_ok : mm88.okS EE.G = true := by kernel_rfl
theorem mm88_run : evT EE [] 1000000000 (.call mm88.f mm88.args) mm88.heap (keptK mm88) = some (.bool true) := by kernel_rfl
theorem mm88_h : mm88.holds EE := ent_run envOk (fun _ h => by cases h) _ _ mm88_ok mm88_run
-- decani/office.Fits, 10375 steps
noncomputable def mm116 : Ent :=
  ⟨24, [.agg ⟨[iP 6, iP 0, .slice (some ⟨6, 0, none⟩) 2 2, .slice none 0 0, .bool false, .slice none 0 0, .bool false, .slice none 0 0]⟩, .agg ⟨[iP 0, iP 3, iP 1]⟩], 7,
   gB ++ [(6, .cells true 0 [iP 0, iP 0, iP 2, iP 1, iP 2, iP 2])],
   [],
   .tuple ⟨[.bool false, iP 0]⟩⟩
theorem mm116_ok : mm116.okS EE.G = true := by kernel_rfl
theorem mm116_run : evT EE [] 1000000000 (.call mm116.f mm116.args) mm116.heap (keptK mm116) = some (.bool true) := by kernel_rfl
theorem mm116_h : mm116.holds EE := ent_run envOk (fun _ h => by cases h) _ _ mm116_ok mm116_run
-- decani/office.Fits, 6848 steps
noncomputable def mm151 : Ent :=
  ⟨24, [.agg ⟨[iP 6, iP 0, .slice (some ⟨6, 0, none⟩) 2 2, .slice none 0 0, .bool false, .slice none 0 0, .bool false, .slice none 0 0]⟩, .agg ⟨[iP 0, iP 1, iP 1]⟩], 7,
   gB ++ [(6, .cells true 0 [iP 0, iP 1, iP 2, iP 2, iP 3, iP 2])],
   [],
   .tuple ⟨[.bool false, iP 0]⟩⟩
theorem mm151_ok : mm151.okS EE.G = true := by kernel_rfl
theorem mm151_run : evT EE [] 1000000000 (.call mm151.f mm151.args) mm151.heap (keptK mm151) = some (.bool true) := by kernel_rfl
theorem mm151_h : mm151.holds EE := ent_run envOk (fun _ h => by cases h) _ _ mm151_ok mm151_run
-- decani/office.Fits, 6658 steps
noncomputable def mm173 : Ent :=
  ⟨24, [.agg ⟨[iP 6, iP 0, .slice (some ⟨6, 0, none⟩) 2 2, .slice none 0 0, .bool false, .slice none 0 0, .bool false, .slice none 0 0]⟩, .agg ⟨[iP 0, iP 1, iP 1]⟩], 7,
   gB ++ [(6, .cells true 0 [iP 1, iP 2, iP 2, iP 3, iP 3, iP 2])],
   [],
   .tuple ⟨[.bool false, iP 0]⟩⟩
theorem mm173_ok : mm173.okS EE.G = true := by kernel_rfl
theorem mm173_run : evT EE [] 1000000000 (.call mm173.f mm173.args) mm173.heap (keptK mm173) = some (.bool true) := by kernel_rfl
theorem mm173_h : mm173.holds EE := ent_run envOk (fun _ h => by cases h) _ _ mm173_ok mm173_run
-- decani/part.Notes, 4809 steps
noncomputable def mm201 : Ent :=
  ⟨25, [.agg ⟨[iP 1, .slice (some ⟨6, 0, none⟩) 2 2, iP 0, iP 254, iP 0, .slice none 0 0]⟩, iP 1, iP 0], 7,
   gB ++ [(6, .cells true 0 [iP 1, iP 2, iP 3, iP 3])],
   [.cells true 2 [iP 3]],
   .tuple ⟨[.slice (some ⟨7, 0, none⟩) 1 18446744073709551616, iP 0]⟩⟩
theorem mm201_ok : mm201.okS EE.G = true := by kernel_rfl
theorem mm201_run : evT EE [] 1000000000 (.call mm201.f mm201.args) mm201.heap (keptK mm201) = some (.bool true) := by kernel_rfl
theorem mm201_h : mm201.holds EE := ent_run envOk (fun _ h => by cases h) _ _ mm201_ok mm201_run
-- decani/part.Ways, 1935 steps
noncomputable def mm232 : Ent :=
  ⟨23, [.agg ⟨[iP 1, .slice (some ⟨6, 0, none⟩) 2 2, iP 0, iP 254, iP 0, .slice none 0 0]⟩], 7,
   gB ++ [(6, .cells true 0 [iP 1, iP 1, iP 1, iP 2])],
   [],
   .tuple ⟨[iP 1, iP 0]⟩⟩
theorem mm232_ok : mm232.okS EE.G = true := by kernel_rfl
theorem mm232_run : evT EE [] 1000000000 (.call mm232.f mm232.args) mm232.heap (keptK mm232) = some (.bool true) := by kernel_rfl
theorem mm232_h : mm232.holds EE := ent_run envOk (fun _ h => by cases h) _ _ mm232_ok mm232_run
end Go.Proofs.YtmjpnohpmfmdlaaGreatDoor
