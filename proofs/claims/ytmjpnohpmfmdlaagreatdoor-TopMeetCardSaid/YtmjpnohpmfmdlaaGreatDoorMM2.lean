/- Known calls, part 2: what single calls hand back, at small heaps, by the kernel's own run of the evaluator. No conditions. -/
import Derived.Test.YtmjpnohpmfmdlaaGreatDoorEnv
set_option linter.all false
namespace Go.Proofs.YtmjpnohpmfmdlaaGreatDoor
open Go.Ai
set_option maxRecDepth 1000000
-- decani/office.Kept, 27154 steps
noncomputable def mm2 : Ent :=
  ⟨11, [.agg ⟨[iP 6, iP 0, .slice (some ⟨6, 0, none⟩) 2 2, .slice none 0 0, .bool false, .slice none 0 0, .bool false, .slice none 0 0]⟩, iP 0, iP 1], 7,
   gB ++ [(6, .cells true 0 [iP 2, iP 3, iP 2, iP 4, iP 5, iP 2])],
   [],
   .tuple ⟨[iP 2, iP 0]⟩⟩
theorem mm2_ok : mm2.okS EE.G = true := by kernel_rfl
theorem mm2_run : evT EE [] 1000000000 (.call mm2.f mm2.args) mm2.heap (keptK mm2) = some (.bool true) := by kernel_rfl
theorem mm2_h : mm2.holds EE := ent_run envOk (fun _ h => by cases h) _ _ mm2_ok mm2_run
-- decani/office.Fits, 13965 steps
noncomputable def mm53 : Ent :=
  ⟨24, [.agg ⟨[iP 6, iP 0, .slice (some ⟨6, 0, none⟩) 2 2, .slice none 0 0, .bool false, .slice none 0 0, .bool false, .slice none 0 0]⟩, .agg ⟨[iP 0, iP 3, iP 1]⟩], 7,
   gB ++ [(6, .cells true 0 [iP 0, iP 1, iP 2, iP 2, iP 3, iP 2])],
   [],
   .tuple ⟨[.bool true, iP 0]⟩⟩
theorem mm53_ok : mm53.okS EE.G = true := by kernel_rfl
theorem mm53_run : evT EE [] 1000000000 (.call mm53.f mm53.args) mm53.heap (keptK mm53) = some (.bool true) := by kernel_rfl
theorem mm53_h : mm53.holds EE := ent_run envOk (fun _ h => by cases h) _ _ mm53_ok mm53_run
-- decani/office.Fits, 12039 steps
noncomputable def mm72 : Ent :=
  ⟨24, [.agg ⟨[iP 6, iP 0, .slice (some ⟨6, 0, none⟩) 2 2, .slice none 0 0, .bool false, .slice none 0 0, .bool false, .slice none 0 0]⟩, .agg ⟨[iP 0, iP 5, iP 1]⟩], 7,
   gB ++ [(6, .cells true 0 [iP 1, iP 1, iP 2, iP 2, iP 3, iP 2])],
   [],
   .tuple ⟨[.bool false, iP 0]⟩⟩
theorem mm72_ok : mm72.okS EE.G = true := by kernel_rfl
theorem mm72_run : evT EE [] 1000000000 (.call mm72.f mm72.args) mm72.heap (keptK mm72) = some (.bool true) := by kernel_rfl
theorem mm72_h : mm72.holds EE := ent_run envOk (fun _ h => by cases h) _ _ mm72_ok mm72_run
-- decani/office.Kept, 11237 steps
noncomputable def mm104 : Ent :=
  ⟨11, [.agg ⟨[iP 6, iP 0, .slice (some ⟨6, 0, none⟩) 2 2, .slice none 0 0, .bool false, .slice none 0 0, .bool false, .slice none 0 0]⟩, iP 0, iP 1], 7,
   gB ++ [(6, .cells true 0 [iP 1, iP 1, iP 2, iP 2, iP 2, iP 2])],
   [],
   .tuple ⟨[iP 2, iP 0]⟩⟩
theorem mm104_ok : mm104.okS EE.G = true := by kernel_rfl
theorem mm104_run : evT EE [] 1000000000 (.call mm104.f mm104.args) mm104.heap (keptK mm104) = some (.bool true) := by kernel_rfl
theorem mm104_h : mm104.holds EE := ent_run envOk (fun _ h => by cases h) _ _ mm104_ok mm104_run
-- decani/office.Fits, 8747 steps
noncomputable def mm131 : Ent :=
  ⟨24, [.agg ⟨[iP 6, iP 0, .slice (some ⟨6, 0, none⟩) 2 2, .slice none 0 0, .bool false, .slice none 0 0, .bool false, .slice none 0 0]⟩, .agg ⟨[iP 0, iP 4, iP 1]⟩], 7,
   gB ++ [(6, .cells true 0 [iP 0, iP 0, iP 2, iP 1, iP 1, iP 2])],
   [],
   .tuple ⟨[.bool false, iP 0]⟩⟩
theorem mm131_ok : mm131.okS EE.G = true := by kernel_rfl
theorem mm131_run : evT EE [] 1000000000 (.call mm131.f mm131.args) mm131.heap (keptK mm131) = some (.bool true) := by kernel_rfl
theorem mm131_h : mm131.holds EE := ent_run envOk (fun _ h => by cases h) _ _ mm131_ok mm131_run
-- decani/office.Fits, 6848 steps
noncomputable def mm162 : Ent :=
  ⟨24, [.agg ⟨[iP 6, iP 0, .slice (some ⟨6, 0, none⟩) 2 2, .slice none 0 0, .bool false, .slice none 0 0, .bool false, .slice none 0 0]⟩, .agg ⟨[iP 0, iP 2, iP 1]⟩], 7,
   gB ++ [(6, .cells true 0 [iP 2, iP 3, iP 2, iP 4, iP 5, iP 2])],
   [],
   .tuple ⟨[.bool false, iP 0]⟩⟩
theorem mm162_ok : mm162.okS EE.G = true := by kernel_rfl
theorem mm162_run : evT EE [] 1000000000 (.call mm162.f mm162.args) mm162.heap (keptK mm162) = some (.bool true) := by kernel_rfl
theorem mm162_h : mm162.holds EE := ent_run envOk (fun _ h => by cases h) _ _ mm162_ok mm162_run
-- decani/office.Fits, 6382 steps
noncomputable def mm193 : Ent :=
  ⟨24, [.agg ⟨[iP 6, iP 0, .slice (some ⟨6, 0, none⟩) 2 2, .slice none 0 0, .bool false, .slice none 0 0, .bool false, .slice none 0 0]⟩, .agg ⟨[iP 0, iP 2, iP 1]⟩], 7,
   gB ++ [(6, .cells true 0 [iP 2, iP 2, iP 2, iP 3, iP 3, iP 2])],
   [],
   .tuple ⟨[.bool false, iP 0]⟩⟩
theorem mm193_ok : mm193.okS EE.G = true := by kernel_rfl
theorem mm193_run : evT EE [] 1000000000 (.call mm193.f mm193.args) mm193.heap (keptK mm193) = some (.bool true) := by kernel_rfl
theorem mm193_h : mm193.holds EE := ent_run envOk (fun _ h => by cases h) _ _ mm193_ok mm193_run
-- decani/part.Ways, 2550 steps
noncomputable def mm223 : Ent :=
  ⟨23, [.agg ⟨[iP 1, .slice (some ⟨6, 0, none⟩) 2 2, iP 0, iP 254, iP 0, .slice none 0 0]⟩], 7,
   gB ++ [(6, .cells true 0 [iP 1, iP 2, iP 3, iP 3])],
   [],
   .tuple ⟨[iP 2, iP 0]⟩⟩
theorem mm223_ok : mm223.okS EE.G = true := by kernel_rfl
theorem mm223_run : evT EE [] 1000000000 (.call mm223.f mm223.args) mm223.heap (keptK mm223) = some (.bool true) := by kernel_rfl
theorem mm223_h : mm223.holds EE := ent_run envOk (fun _ h => by cases h) _ _ mm223_ok mm223_run
end Go.Proofs.YtmjpnohpmfmdlaaGreatDoor
