/- Known calls, part 25: what single calls hand back, at small heaps, by the kernel's own run of the evaluator. No conditions. -/
import Derived.Test.YtmjpnohpmfmdlaaGreatDoorEnv
set_option linter.all false
namespace Go.Proofs.YtmjpnohpmfmdlaaGreatDoor
open Go.Ai
set_option maxRecDepth 1000000
-- decani/office.Kept, 16909 steps
noncomputable def mm25 : Ent :=
  ⟨11, [.agg ⟨[iP 6, iP 0, .slice (some ⟨6, 0, none⟩) 2 2, .slice none 0 0, .bool false, .slice none 0 0, .bool false, .slice none 0 0]⟩, iP 0, iP 0], 7,
   gB ++ [(6, .cells true 0 [iP 0, iP 0, iP 2, iP 0, iP 1, iP 2])],
   [],
   .tuple ⟨[iP 2, iP 0]⟩⟩
theorem mm25_ok : mm25.okS EE.G = true := by kernel_rfl
theorem mm25_run : evT EE [] 1000000000 (.call mm25.f mm25.args) mm25.heap (keptK mm25) = some (.bool true) := by kernel_rfl
theorem mm25_h : mm25.holds EE := ent_run envOk (fun _ h => by cases h) _ _ mm25_ok mm25_run
-- decani/office.Kept, 16554 steps
noncomputable def mm30 : Ent :=
  ⟨11, [.agg ⟨[iP 6, iP 0, .slice (some ⟨6, 0, none⟩) 2 2, .slice none 0 0, .bool false, .slice none 0 0, .bool false, .slice none 0 0]⟩, iP 0, iP 1], 7,
   gB ++ [(6, .cells true 0 [iP 1, iP 2, iP 2, iP 3, iP 3, iP 2])],
   [],
   .tuple ⟨[iP 2, iP 0]⟩⟩
theorem mm30_ok : mm30.okS EE.G = true := by kernel_rfl
theorem mm30_run : evT EE [] 1000000000 (.call mm30.f mm30.args) mm30.heap (keptK mm30) = some (.bool true) := by kernel_rfl
theorem mm30_h : mm30.holds EE := ent_run envOk (fun _ h => by cases h) _ _ mm30_ok mm30_run
-- decani/office.Fits, 13549 steps
noncomputable def mm57 : Ent :=
  ⟨24, [.agg ⟨[iP 6, iP 0, .slice (some ⟨6, 0, none⟩) 2 2, .slice none 0 0, .bool false, .slice none 0 0, .bool false, .slice none 0 0]⟩, .agg ⟨[iP 0, iP 2, iP 1]⟩], 7,
   gB ++ [(6, .cells true 0 [iP 0, iP 0, iP 2, iP 1, iP 2, iP 2])],
   [],
   .tuple ⟨[.bool true, iP 0]⟩⟩
theorem mm57_ok : mm57.okS EE.G = true := by kernel_rfl
theorem mm57_run : evT EE [] 1000000000 (.call mm57.f mm57.args) mm57.heap (keptK mm57) = some (.bool true) := by kernel_rfl
theorem mm57_h : mm57.holds EE := ent_run envOk (fun _ h => by cases h) _ _ mm57_ok mm57_run
-- decani/office.Fits, 11792 steps
noncomputable def mm97 : Ent :=
  ⟨24, [.agg ⟨[iP 6, iP 0, .slice (some ⟨6, 0, none⟩) 2 2, .slice none 0 0, .bool false, .slice none 0 0, .bool false, .slice none 0 0]⟩, .agg ⟨[iP 0, iP 4, iP 1]⟩], 7,
   gB ++ [(6, .cells true 0 [iP 2, iP 2, iP 2, iP 2, iP 3, iP 2])],
   [],
   .tuple ⟨[.bool false, iP 0]⟩⟩
theorem mm97_ok : mm97.okS EE.G = true := by kernel_rfl
theorem mm97_run : evT EE [] 1000000000 (.call mm97.f mm97.args) mm97.heap (keptK mm97) = some (.bool true) := by kernel_rfl
theorem mm97_h : mm97.holds EE := ent_run envOk (fun _ h => by cases h) _ _ mm97_ok mm97_run
-- decani/office.Fits, 9163 steps
noncomputable def mm127 : Ent :=
  ⟨24, [.agg ⟨[iP 6, iP 0, .slice (some ⟨6, 0, none⟩) 2 2, .slice none 0 0, .bool false, .slice none 0 0, .bool false, .slice none 0 0]⟩, .agg ⟨[iP 0, iP 5, iP 1]⟩], 7,
   gB ++ [(6, .cells true 0 [iP 2, iP 2, iP 2, iP 3, iP 3, iP 2])],
   [],
   .tuple ⟨[.bool false, iP 0]⟩⟩
theorem mm127_ok : mm127.okS EE.G = true := by kernel_rfl
theorem mm127_run : evT EE [] 1000000000 (.call mm127.f mm127.args) mm127.heap (keptK mm127) = some (.bool true) := by kernel_rfl
theorem mm127_h : mm127.holds EE := ent_run envOk (fun _ h => by cases h) _ _ mm127_ok mm127_run
-- decani/office.Fits, 6867 steps
noncomputable def mm146 : Ent :=
  ⟨24, [.agg ⟨[iP 6, iP 0, .slice (some ⟨6, 0, none⟩) 2 2, .slice none 0 0, .bool false, .slice none 0 0, .bool false, .slice none 0 0]⟩, .agg ⟨[iP 0, iP 0, iP 1]⟩], 7,
   gB ++ [(6, .cells true 0 [iP 1, iP 1, iP 2, iP 1, iP 2, iP 2])],
   [],
   .tuple ⟨[.bool false, iP 0]⟩⟩
theorem mm146_ok : mm146.okS EE.G = true := by kernel_rfl
theorem mm146_run : evT EE [] 1000000000 (.call mm146.f mm146.args) mm146.heap (keptK mm146) = some (.bool true) := by kernel_rfl
theorem mm146_h : mm146.holds EE := ent_run envOk (fun _ h => by cases h) _ _ mm146_ok mm146_run
-- decani/office.Fits, 6658 steps
noncomputable def mm168 : Ent :=
  ⟨24, [.agg ⟨[iP 6, iP 0, .slice (some ⟨6, 0, none⟩) 2 2, .slice none 0 0, .bool false, .slice none 0 0, .bool false, .slice none 0 0]⟩, .agg ⟨[iP 0, iP 0, iP 1]⟩], 7,
   gB ++ [(6, .cells true 0 [iP 0, iP 1, iP 2, iP 2, iP 2, iP 2])],
   [],
   .tuple ⟨[.bool false, iP 0]⟩⟩
theorem mm168_ok : mm168.okS EE.G = true := by kernel_rfl
theorem mm168_run : evT EE [] 1000000000 (.call mm168.f mm168.args) mm168.heap (keptK mm168) = some (.bool true) := by kernel_rfl
theorem mm168_h : mm168.holds EE := ent_run envOk (fun _ h => by cases h) _ _ mm168_ok mm168_run
-- decani/part.Notes, 6245 steps
noncomputable def mm196 : Ent :=
  ⟨25, [.agg ⟨[iP 1, .slice (some ⟨6, 0, none⟩) 2 2, iP 0, iP 254, iP 0, .slice none 0 0]⟩, iP 1, iP 0], 7,
   gB ++ [(6, .cells true 0 [iP 2, iP 3, iP 4, iP 5])],
   [.cells true 2 [iP 4, iP 5]],
   .tuple ⟨[.slice (some ⟨7, 0, none⟩) 2 18446744073709551616, iP 0]⟩⟩
theorem mm196_ok : mm196.okS EE.G = true := by kernel_rfl
theorem mm196_run : evT EE [] 1000000000 (.call mm196.f mm196.args) mm196.heap (keptK mm196) = some (.bool true) := by kernel_rfl
theorem mm196_h : mm196.holds EE := ent_run envOk (fun _ h => by cases h) _ _ mm196_ok mm196_run
-- decani/part.Notes, 1607 steps
noncomputable def mm239 : Ent :=
  ⟨25, [.agg ⟨[iP 1, .slice (some ⟨6, 0, none⟩) 2 2, iP 0, iP 254, iP 0, .slice none 0 0]⟩, iP 1, iP 0], 7,
   gB ++ [(6, .cells true 0 [iP 2, iP 2, iP 2, iP 2])],
   [],
   .tuple ⟨[.slice none 0 0, iP 52]⟩⟩
theorem mm239_ok : mm239.okS EE.G = true := by kernel_rfl
theorem mm239_run : evT EE [] 1000000000 (.call mm239.f mm239.args) mm239.heap (keptK mm239) = some (.bool true) := by kernel_rfl
theorem mm239_h : mm239.holds EE := ent_run envOk (fun _ h => by cases h) _ _ mm239_ok mm239_run
end Go.Proofs.YtmjpnohpmfmdlaaGreatDoor
