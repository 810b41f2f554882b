/- Known calls, part 5: what single calls hand back, at small heaps, by the kernel's own run of the evaluator. No conditions. -/
import Derived.Test.YtmjpnohpmfmdlaaGreatDoorEnv
set_option linter.all false
namespace Go.Proofs.YtmjpnohpmfmdlaaGreatDoor
open Go.Ai
set_option maxRecDepth 1000000
-- decani/office.Kept, 26950 steps
noncomputable def mm5 : Ent :=
  ⟨11, [.agg ⟨[iP 6, iP 0, .slice (some ⟨6, 0, none⟩) 2 2, .slice none 0 0, .bool false, .slice none 0 0, .bool false, .slice none 0 0]⟩, iP 0, iP 1], 7,
   gB ++ [(6, .cells true 0 [iP 1, iP 2, iP 2, iP 3, iP 4, iP 2])],
   [],
   .tuple ⟨[iP 2, iP 0]⟩⟩
theorem mm5_ok : mm5.okS EE.G = true := by kernel_rfl
theorem mm5_run : evT EE [] 1000000000 (.call mm5.f mm5.args) mm5.heap (keptK mm5) = some (.bool true) := by kernel_rfl
theorem mm5_h : mm5.holds EE := ent_run envOk (fun _ h => by cases h) _ _ mm5_ok mm5_run
-- decani/office.Falls, 14240 steps
noncomputable def mm50 : Ent :=
  ⟨9, [.agg ⟨[iP 5, iP 0, .slice (some ⟨6, 0, none⟩) 3 18446744073709551616, .slice (some ⟨7, 0, none⟩) 1 1, .bool false, .slice none 0 0, .bool false, .slice none 0 0]⟩, iP 0, iP 2], 8,
   gB ++ [(6, .cells true 4 [iP 1, iP 1, iP 1, iP 1, iP 1, iP 1, iP 1, iP 1, iP 1]),
    (7, .cells true 0 [iP 1, iP 1, iP 1])],
   [],
   .tuple ⟨[.agg ⟨[iP 3, iP 3]⟩, iP 0]⟩⟩
theorem mm50_ok : mm50.okS EE.G = true := by kernel_rfl
theorem mm50_run : evT EE [] 1000000000 (.call mm50.f mm50.args) mm50.heap (keptK mm50) = some (.bool true) := by kernel_rfl
theorem mm50_h : mm50.holds EE := ent_run envOk (fun _ h => by cases h) _ _ mm50_ok mm50_run
-- decani/office.Fits, 11921 steps
noncomputable def mm76 : Ent :=
  ⟨24, [.agg ⟨[iP 6, iP 0, .slice (some ⟨6, 0, none⟩) 2 2, .slice none 0 0, .bool false, .slice none 0 0, .bool false, .slice none 0 0]⟩, .agg ⟨[iP 0, iP 1, iP 1]⟩], 7,
   gB ++ [(6, .cells true 0 [iP 0, iP 0, iP 2, iP 1, iP 1, iP 2])],
   [],
   .tuple ⟨[.bool true, iP 0]⟩⟩
theorem mm76_ok : mm76.okS EE.G = true := by kernel_rfl
theorem mm76_run : evT EE [] 1000000000 (.call mm76.f mm76.args) mm76.heap (keptK mm76) = some (.bool true) := by kernel_rfl
theorem mm76_h : mm76.holds EE := ent_run envOk (fun _ h => by cases h) _ _ mm76_ok mm76_run
-- decani/office.Fits, 11583 steps
noncomputable def mm100 : Ent :=
  ⟨24, [.agg ⟨[iP 6, iP 0, .slice (some ⟨6, 0, none⟩) 2 2, .slice none 0 0, .bool false, .slice none 0 0, .bool false, .slice none 0 0]⟩, .agg ⟨[iP 0, iP 4, iP 1]⟩], 7,
   gB ++ [(6, .cells true 0 [iP 2, iP 3, iP 2, iP 3, iP 3, iP 2])],
   [],
   .tuple ⟨[.bool false, iP 0]⟩⟩
theorem mm100_ok : mm100.okS EE.G = true := by kernel_rfl
theorem mm100_run : evT EE [] 1000000000 (.call mm100.f mm100.args) mm100.heap (keptK mm100) = some (.bool true) := by kernel_rfl
theorem mm100_h : mm100.holds EE := ent_run envOk (fun _ h => by cases h) _ _ mm100_ok mm100_run
-- decani/office.Fits, 8331 steps
noncomputable def mm139 : Ent :=
  ⟨24, [.agg ⟨[iP 6, iP 0, .slice (some ⟨6, 0, none⟩) 2 2, .slice none 0 0, .bool false, .slice none 0 0, .bool false, .slice none 0 0]⟩, .agg ⟨[iP 0, iP 3, iP 1]⟩], 7,
   gB ++ [(6, .cells true 0 [iP 1, iP 1, iP 2, iP 2, iP 2, iP 2])],
   [],
   .tuple ⟨[.bool false, iP 0]⟩⟩
theorem mm139_ok : mm139.okS EE.G = true := by kernel_rfl
theorem mm139_run : evT EE [] 1000000000 (.call mm139.f mm139.args) mm139.heap (keptK mm139) = some (.bool true) := by kernel_rfl
theorem mm139_h : mm139.holds EE := ent_run envOk (fun _ h => by cases h) _ _ mm139_ok mm139_run
-- decani/office.Fits, 6848 steps
noncomputable def mm161 : Ent :=
  ⟨24, [.agg ⟨[iP 6, iP 0, .slice (some ⟨6, 0, none⟩) 2 2, .slice none 0 0, .bool false, .slice none 0 0, .bool false, .slice none 0 0]⟩, .agg ⟨[iP 0, iP 1, iP 1]⟩], 7,
   gB ++ [(6, .cells true 0 [iP 2, iP 3, iP 2, iP 4, iP 5, iP 2])],
   [],
   .tuple ⟨[.bool false, iP 0]⟩⟩
theorem mm161_ok : mm161.okS EE.G = true := by kernel_rfl
theorem mm161_run : evT EE [] 1000000000 (.call mm161.f mm161.args) mm161.heap (keptK mm161) = some (.bool true) := by kernel_rfl
theorem mm161_h : mm161.holds EE := ent_run envOk (fun _ h => by cases h) _ _ mm161_ok mm161_run
-- decani/office.Fits, 6382 steps
noncomputable def mm189 : Ent :=
  ⟨24, [.agg ⟨[iP 6, iP 0, .slice (some ⟨6, 0, none⟩) 2 2, .slice none 0 0, .bool false, .slice none 0 0, .bool false, .slice none 0 0]⟩, .agg ⟨[iP 0, iP 0, iP 1]⟩], 7,
   gB ++ [(6, .cells true 0 [iP 1, iP 1, iP 2, iP 2, iP 2, iP 2])],
   [],
   .tuple ⟨[.bool false, iP 0]⟩⟩
theorem mm189_ok : mm189.okS EE.G = true := by kernel_rfl
theorem mm189_run : evT EE [] 1000000000 (.call mm189.f mm189.args) mm189.heap (keptK mm189) = some (.bool true) := by kernel_rfl
theorem mm189_h : mm189.holds EE := ent_run envOk (fun _ h => by cases h) _ _ mm189_ok mm189_run
-- decani/part.Ways, 3486 steps
noncomputable def mm216 : Ent :=
  ⟨23, [.agg ⟨[iP 1, .slice (some ⟨6, 0, none⟩) 2 2, iP 0, iP 254, iP 0, .slice none 0 0]⟩], 7,
   gB ++ [(6, .cells true 0 [iP 0, iP 1, iP 2, iP 3])],
   [],
   .tuple ⟨[iP 4, iP 0]⟩⟩
theorem mm216_ok : mm216.okS EE.G = true := by kernel_rfl
theorem mm216_run : evT EE [] 1000000000 (.call mm216.f mm216.args) mm216.heap (keptK mm216) = some (.bool true) := by kernel_rfl
theorem mm216_h : mm216.holds EE := ent_run envOk (fun _ h => by cases h) _ _ mm216_ok mm216_run
end Go.Proofs.YtmjpnohpmfmdlaaGreatDoor
