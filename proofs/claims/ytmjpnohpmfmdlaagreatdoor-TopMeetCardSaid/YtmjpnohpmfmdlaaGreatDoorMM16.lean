/- Known calls, part 16: what single calls hand back, at small heaps, by the kernel's own run of the evaluator. No conditions. -/
import Derived.Test.YtmjpnohpmfmdlaaGreatDoorEnv
set_option linter.all false
namespace Go.Proofs.YtmjpnohpmfmdlaaGreatDoor
open Go.Ai
set_option maxRecDepth 1000000
-- decani/office.Fits, 17972 steps
noncomputable def mm16 : Ent :=
  ⟨24, [.agg ⟨[iP 6, iP 0, .slice (some ⟨6, 0, none⟩) 2 2, .slice none 0 0, .bool false, .slice none 0 0, .bool false, .slice none 0 0]⟩, .agg ⟨[iP 0, iP 5, iP 1]⟩], 7,
   gB ++ [(6, .cells true 0 [iP 1, iP 2, iP 2, iP 3, iP 4, iP 2])],
   [],
   .tuple ⟨[.bool false, iP 0]⟩⟩
theorem mm16_ok : mm16.okS EE.G = true := by kernel_rfl
theorem mm16_run : evT EE [] 1000000000 (.call mm16.f mm16.args) mm16.heap (keptK mm16) = some (.bool true) := by kernel_rfl
theorem mm16_h : mm16.holds EE := ent_run envOk (fun _ h => by cases h) _ _ mm16_ok mm16_run
-- decani/office.Kept, 16299 steps
noncomputable def mm40 : Ent :=
  ⟨11, [.agg ⟨[iP 6, iP 0, .slice (some ⟨6, 0, none⟩) 2 2, .slice none 0 0, .bool false, .slice none 0 0, .bool false, .slice none 0 0]⟩, iP 0, iP 0], 7,
   gB ++ [(6, .cells true 0 [iP 0, iP 1, iP 2, iP 2, iP 2, iP 2])],
   [],
   .tuple ⟨[iP 2, iP 0]⟩⟩
theorem mm40_ok : mm40.okS EE.G = true := by kernel_rfl
theorem mm40_run : evT EE [] 1000000000 (.call mm40.f mm40.args) mm40.heap (keptK mm40) = some (.bool true) := by kernel_rfl
theorem mm40_h : mm40.holds EE := ent_run envOk (fun _ h => by cases h) _ _ mm40_ok mm40_run
-- decani/office.Fits, 12220 steps
noncomputable def mm67 : Ent :=
  ⟨24, [.agg ⟨[iP 6, iP 0, .slice (some ⟨6, 0, none⟩) 2 2, .slice none 0 0, .bool false, .slice none 0 0, .bool false, .slice none 0 0]⟩, .agg ⟨[iP 0, iP 5, iP 1]⟩], 7,
   gB ++ [(6, .cells true 0 [iP 2, iP 3, iP 2, iP 4, iP 4, iP 2])],
   [],
   .tuple ⟨[.bool false, iP 0]⟩⟩
theorem mm67_ok : mm67.okS EE.G = true := by kernel_rfl
theorem mm67_run : evT EE [] 1000000000 (.call mm67.f mm67.args) mm67.heap (keptK mm67) = some (.bool true) := by kernel_rfl
theorem mm67_h : mm67.holds EE := ent_run envOk (fun _ h => by cases h) _ _ mm67_ok mm67_run
-- decani/office.Fits, 11792 steps
noncomputable def mm95 : Ent :=
  ⟨24, [.agg ⟨[iP 6, iP 0, .slice (some ⟨6, 0, none⟩) 2 2, .slice none 0 0, .bool false, .slice none 0 0, .bool false, .slice none 0 0]⟩, .agg ⟨[iP 0, iP 4, iP 1]⟩], 7,
   gB ++ [(6, .cells true 0 [iP 0, iP 0, iP 2, iP 0, iP 1, iP 2])],
   [],
   .tuple ⟨[.bool false, iP 0]⟩⟩
theorem mm95_ok : mm95.okS EE.G = true := by kernel_rfl
theorem mm95_run : evT EE [] 1000000000 (.call mm95.f mm95.args) mm95.heap (keptK mm95) = some (.bool true) := by kernel_rfl
theorem mm95_h : mm95.holds EE := ent_run envOk (fun _ h => by cases h) _ _ mm95_ok mm95_run
-- decani/office.Fits, 9748 steps
noncomputable def mm120 : Ent :=
  ⟨24, [.agg ⟨[iP 6, iP 0, .slice (some ⟨6, 0, none⟩) 2 2, .slice none 0 0, .bool false, .slice none 0 0, .bool false, .slice none 0 0]⟩, .agg ⟨[iP 0, iP 5, iP 1]⟩], 7,
   gB ++ [(6, .cells true 0 [iP 1, iP 1, iP 2, iP 1, iP 1, iP 2])],
   [],
   .tuple ⟨[.bool false, iP 0]⟩⟩
theorem mm120_ok : mm120.okS EE.G = true := by kernel_rfl
theorem mm120_run : evT EE [] 1000000000 (.call mm120.f mm120.args) mm120.heap (keptK mm120) = some (.bool true) := by kernel_rfl
theorem mm120_h : mm120.holds EE := ent_run envOk (fun _ h => by cases h) _ _ mm120_ok mm120_run
-- decani/office.Fits, 6867 steps
noncomputable def mm148 : Ent :=
  ⟨24, [.agg ⟨[iP 6, iP 0, .slice (some ⟨6, 0, none⟩) 2 2, .slice none 0 0, .bool false, .slice none 0 0, .bool false, .slice none 0 0]⟩, .agg ⟨[iP 0, iP 1, iP 1]⟩], 7,
   gB ++ [(6, .cells true 0 [iP 2, iP 2, iP 2, iP 2, iP 3, iP 2])],
   [],
   .tuple ⟨[.bool false, iP 0]⟩⟩
theorem mm148_ok : mm148.okS EE.G = true := by kernel_rfl
theorem mm148_run : evT EE [] 1000000000 (.call mm148.f mm148.args) mm148.heap (keptK mm148) = some (.bool true) := by kernel_rfl
theorem mm148_h : mm148.holds EE := ent_run envOk (fun _ h => by cases h) _ _ mm148_ok mm148_run
-- decani/office.Fits, 6658 steps
noncomputable def mm170 : Ent :=
  ⟨24, [.agg ⟨[iP 6, iP 0, .slice (some ⟨6, 0, none⟩) 2 2, .slice none 0 0, .bool false, .slice none 0 0, .bool false, .slice none 0 0]⟩, .agg ⟨[iP 0, iP 0, iP 1]⟩], 7,
   gB ++ [(6, .cells true 0 [iP 1, iP 2, iP 2, iP 2, iP 2, iP 2])],
   [],
   .tuple ⟨[.bool false, iP 0]⟩⟩
theorem mm170_ok : mm170.okS EE.G = true := by kernel_rfl
theorem mm170_run : evT EE [] 1000000000 (.call mm170.f mm170.args) mm170.heap (keptK mm170) = some (.bool true) := by kernel_rfl
theorem mm170_h : mm170.holds EE := ent_run envOk (fun _ h => by cases h) _ _ mm170_ok mm170_run
-- decani/part.Notes, 5773 steps
noncomputable def mm198 : Ent :=
  ⟨25, [.agg ⟨[iP 1, .slice (some ⟨6, 0, none⟩) 2 2, iP 0, iP 254, iP 0, .slice none 0 0]⟩, iP 1, iP 0], 7,
   gB ++ [(6, .cells true 0 [iP 1, iP 2, iP 2, iP 3])],
   [.cells true 2 [iP 2, iP 3]],
   .tuple ⟨[.slice (some ⟨7, 0, none⟩) 2 18446744073709551616, iP 0]⟩⟩
theorem mm198_ok : mm198.okS EE.G = true := by kernel_rfl
theorem mm198_run : evT EE [] 1000000000 (.call mm198.f mm198.args) mm198.heap (keptK mm198) = some (.bool true) := by kernel_rfl
theorem mm198_h : mm198.holds EE := ent_run envOk (fun _ h => by cases h) _ _ mm198_ok mm198_run
-- decani/part.Notes, 1607 steps
noncomputable def mm237 : Ent :=
  ⟨25, [.agg ⟨[iP 1, .slice (some ⟨6, 0, none⟩) 2 2, iP 0, iP 254, iP 0, .slice none 0 0]⟩, iP 1, iP 0], 7,
   gB ++ [(6, .cells true 0 [iP 0, iP 0, iP 0, iP 0])],
   [],
   .tuple ⟨[.slice none 0 0, iP 52]⟩⟩
theorem mm237_ok : mm237.okS EE.G = true := by kernel_rfl
theorem mm237_run : evT EE [] 1000000000 (.call mm237.f mm237.args) mm237.heap (keptK mm237) = some (.bool true) := by kernel_rfl
theorem mm237_h : mm237.holds EE := ent_run envOk (fun _ h => by cases h) _ _ mm237_ok mm237_run
end Go.Proofs.YtmjpnohpmfmdlaaGreatDoor
