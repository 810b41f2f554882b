/- Known calls, part 24: what single calls hand back, at small heaps, by the kernel's own run of the evaluator. No conditions. -/
import Derived.Test.YtmjpnohpmfmdlaaGreatDoorEnv
set_option linter.all false
namespace Go.Proofs.YtmjpnohpmfmdlaaGreatDoor
open Go.Ai
set_option maxRecDepth 1000000
-- decani/office.Kept, 16957 steps
noncomputable def mm24 : Ent :=
  ⟨11, [.agg ⟨[iP 6, iP 0, .slice (some ⟨6, 0, none⟩) 2 2, .slice none 0 0, .bool false, .slice none 0 0, .bool false, .slice none 0 0]⟩, iP 0, iP 1], 7,
   gB ++ [(6, .cells true 0 [iP 0, iP 1, iP 2, iP 1, iP 1, iP 2])],
   [],
   .tuple ⟨[iP 1, iP 0]⟩⟩
theorem mm24_ok : mm24.okS EE.G = true := by kernel_rfl
theorem mm24_run : evT EE [] 1000000000 (.call mm24.f mm24.args) mm24.heap (keptK mm24) = some (.bool true) := by kernel_rfl
theorem mm24_h : mm24.holds EE := ent_run envOk (fun _ h => by cases h) _ _ mm24_ok mm24_run
-- decani/office.Fits, 16503 steps
noncomputable def mm31 : Ent :=
  ⟨24, [.agg ⟨[iP 6, iP 0, .slice (some ⟨6, 0, none⟩) 2 2, .slice none 0 0, .bool false, .slice none 0 0, .bool false, .slice none 0 0]⟩, .agg ⟨[iP 0, iP 4, iP 1]⟩], 7,
   gB ++ [(6, .cells true 0 [iP 0, iP 1, iP 2, iP 1, iP 2, iP 2])],
   [],
   .tuple ⟨[.bool false, iP 0]⟩⟩
theorem mm31_ok : mm31.okS EE.G = true := by kernel_rfl
theorem mm31_run : evT EE [] 1000000000 (.call mm31.f mm31.args) mm31.heap (keptK mm31) = some (.bool true) := by kernel_rfl
theorem mm31_h : mm31.holds EE := ent_run envOk (fun _ h => by cases h) _ _ mm31_ok mm31_run
-- decani/office.Fits, 13718 steps
noncomputable def mm56 : Ent :=
  ⟨24, [.agg ⟨[iP 6, iP 0, .slice (some ⟨6, 0, none⟩) 2 2, .slice none 0 0, .bool false, .slice none 0 0, .bool false, .slice none 0 0]⟩, .agg ⟨[iP 0, iP 1, iP 1]⟩], 7,
   gB ++ [(6, .cells true 0 [iP 0, iP 0, iP 2, iP 0, iP 1, iP 2])],
   [],
   .tuple ⟨[.bool true, iP 0]⟩⟩
theorem mm56_ok : mm56.okS EE.G = true := by kernel_rfl
theorem mm56_run : evT EE [] 1000000000 (.call mm56.f mm56.args) mm56.heap (keptK mm56) = some (.bool true) := by kernel_rfl
theorem mm56_h : mm56.holds EE := ent_run envOk (fun _ h => by cases h) _ _ mm56_ok mm56_run
-- decani/office.Fits, 11583 steps
noncomputable def mm99 : Ent :=
  ⟨24, [.agg ⟨[iP 6, iP 0, .slice (some ⟨6, 0, none⟩) 2 2, .slice none 0 0, .bool false, .slice none 0 0, .bool false, .slice none 0 0]⟩, .agg ⟨[iP 0, iP 4, iP 1]⟩], 7,
   gB ++ [(6, .cells true 0 [iP 1, iP 2, iP 2, iP 2, iP 2, iP 2])],
   [],
   .tuple ⟨[.bool false, iP 0]⟩⟩
theorem mm99_ok : mm99.okS EE.G = true := by kernel_rfl
theorem mm99_run : evT EE [] 1000000000 (.call mm99.f mm99.args) mm99.heap (keptK mm99) = some (.bool true) := by kernel_rfl
theorem mm99_h : mm99.holds EE := ent_run envOk (fun _ h => by cases h) _ _ mm99_ok mm99_run
-- decani/office.Fits, 9163 steps
noncomputable def mm126 : Ent :=
  ⟨24, [.agg ⟨[iP 6, iP 0, .slice (some ⟨6, 0, none⟩) 2 2, .slice none 0 0, .bool false, .slice none 0 0, .bool false, .slice none 0 0]⟩, .agg ⟨[iP 0, iP 5, iP 1]⟩], 7,
   gB ++ [(6, .cells true 0 [iP 1, iP 1, iP 2, iP 2, iP 2, iP 2])],
   [],
   .tuple ⟨[.bool false, iP 0]⟩⟩
theorem mm126_ok : mm126.okS EE.G = true := by kernel_rfl
theorem mm126_run : evT EE [] 1000000000 (.call mm126.f mm126.args) mm126.heap (keptK mm126) = some (.bool true) := by kernel_rfl
theorem mm126_h : mm126.holds EE := ent_run envOk (fun _ h => by cases h) _ _ mm126_ok mm126_run
-- decani/office.Fits, 7668 steps
noncomputable def mm145 : Ent :=
  ⟨24, [.agg ⟨[iP 6, iP 0, .slice (some ⟨6, 0, none⟩) 2 2, .slice none 0 0, .bool false, .slice none 0 0, .bool false, .slice none 0 0]⟩, .agg ⟨[iP 0, iP 0, iP 1]⟩], 7,
   gB ++ [(6, .cells true 0 [iP 0, iP 0, iP 2, iP 0, iP 0, iP 2])],
   [],
   .tuple ⟨[.bool false, iP 0]⟩⟩
theorem mm145_ok : mm145.okS EE.G = true := by kernel_rfl
theorem mm145_run : evT EE [] 1000000000 (.call mm145.f mm145.args) mm145.heap (keptK mm145) = some (.bool true) := by kernel_rfl
theorem mm145_h : mm145.holds EE := ent_run envOk (fun _ h => by cases h) _ _ mm145_ok mm145_run
-- decani/office.Fits, 6658 steps
noncomputable def mm177 : Ent :=
  ⟨24, [.agg ⟨[iP 6, iP 0, .slice (some ⟨6, 0, none⟩) 2 2, .slice none 0 0, .bool false, .slice none 0 0, .bool false, .slice none 0 0]⟩, .agg ⟨[iP 0, iP 2, iP 1]⟩], 7,
   gB ++ [(6, .cells true 0 [iP 2, iP 3, iP 2, iP 3, iP 3, iP 2])],
   [],
   .tuple ⟨[.bool false, iP 0]⟩⟩
theorem mm177_ok : mm177.okS EE.G = true := by kernel_rfl
theorem mm177_run : evT EE [] 1000000000 (.call mm177.f mm177.args) mm177.heap (keptK mm177) = some (.bool true) := by kernel_rfl
theorem mm177_h : mm177.holds EE := ent_run envOk (fun _ h => by cases h) _ _ mm177_ok mm177_run
-- decani/part.Notes, 4425 steps
noncomputable def mm205 : Ent :=
  ⟨25, [.agg ⟨[iP 1, .slice (some ⟨6, 0, none⟩) 2 2, iP 0, iP 254, iP 0, .slice none 0 0]⟩, iP 1, iP 0], 7,
   gB ++ [(6, .cells true 0 [iP 2, iP 2, iP 3, iP 4])],
   [.cells true 2 [iP 3, iP 4]],
   .tuple ⟨[.slice (some ⟨7, 0, none⟩) 2 18446744073709551616, iP 0]⟩⟩
theorem mm205_ok : mm205.okS EE.G = true := by kernel_rfl
theorem mm205_run : evT EE [] 1000000000 (.call mm205.f mm205.args) mm205.heap (keptK mm205) = some (.bool true) := by kernel_rfl
theorem mm205_h : mm205.holds EE := ent_run envOk (fun _ h => by cases h) _ _ mm205_ok mm205_run
-- decani/part.Ways, 1692 steps
noncomputable def mm234 : Ent :=
  ⟨23, [.agg ⟨[iP 1, .slice (some ⟨6, 0, none⟩) 2 2, iP 0, iP 254, iP 0, .slice none 0 0]⟩], 7,
   gB ++ [(6, .cells true 0 [iP 0, iP 0, iP 1, iP 1])],
   [],
   .tuple ⟨[iP 1, iP 0]⟩⟩
theorem mm234_ok : mm234.okS EE.G = true := by kernel_rfl
theorem mm234_run : evT EE [] 1000000000 (.call mm234.f mm234.args) mm234.heap (keptK mm234) = some (.bool true) := by kernel_rfl
theorem mm234_h : mm234.holds EE := ent_run envOk (fun _ h => by cases h) _ _ mm234_ok mm234_run
-- decani/part.Ways, 1467 steps
noncomputable def mm240 : Ent :=
  ⟨23, [.agg ⟨[iP 1, .slice (some ⟨6, 0, none⟩) 2 2, iP 0, iP 254, iP 0, .slice none 0 0]⟩], 7,
   gB ++ [(6, .cells true 0 [iP 0, iP 0, iP 0, iP 0])],
   [],
   .tuple ⟨[iP 0, iP 0]⟩⟩
theorem mm240_ok : mm240.okS EE.G = true := by kernel_rfl
theorem mm240_run : evT EE [] 1000000000 (.call mm240.f mm240.args) mm240.heap (keptK mm240) = some (.bool true) := by kernel_rfl
theorem mm240_h : mm240.holds EE := ent_run envOk (fun _ h => by cases h) _ _ mm240_ok mm240_run
end Go.Proofs.YtmjpnohpmfmdlaaGreatDoor
