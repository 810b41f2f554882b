/- Known calls, part 3: what single calls hand back, at small heaps, by the kernel's own run of the evaluator. No conditions. -/
import Derived.Test.YtmjpnohpmfmdlaaGreatDoorEnv
set_option linter.all false
namespace Go.Proofs.YtmjpnohpmfmdlaaGreatDoor
open Go.Ai
set_option maxRecDepth 1000000
-- decani/office.Kept, 27149 steps
noncomputable def mm3 : Ent :=
  ⟨11, [.agg ⟨[iP 6, iP 0, .slice (some ⟨6, 0, none⟩) 2 2, .slice none 0 0, .bool false, .slice none 0 0, .bool false, .slice none 0 0]⟩, iP 0, iP 1], 7,
   gB ++ [(6, .cells true 0 [iP 0, iP 1, iP 2, iP 1, iP 2, iP 2])],
   [],
   .tuple ⟨[iP 1, iP 0]⟩⟩
theorem mm3_ok : mm3.okS EE.G = true := by kernel_rfl
theorem mm3_run : evT EE [] 1000000000 (.call mm3.f mm3.args) mm3.heap (keptK mm3) = some (.bool true) := by kernel_rfl
theorem mm3_h : mm3.holds EE := ent_run envOk (fun _ h => by cases h) _ _ mm3_ok mm3_run
-- decani/office.Chief, 14065 steps
noncomputable def mm52 : Ent :=
  ⟨14, [.agg ⟨[iP 5, iP 0, .slice (some ⟨6, 0, none⟩) 3 18446744073709551616, .slice (some ⟨7, 0, none⟩) 1 1, .bool false, .slice none 0 0, .bool false, .slice none 0 0]⟩, iP 0, iP 3], 8,
   gB ++ [(6, .cells true 4 [iP 1, iP 1, iP 1, iP 1, iP 1, iP 1, iP 1, iP 1, iP 1]),
    (7, .cells true 0 [iP 1, iP 1, iP 1])],
   [.cells true 2 [iP 2]],
   .tuple ⟨[.slice (some ⟨8, 0, none⟩) 1 18446744073709551616, iP 0]⟩⟩
theorem mm52_ok : mm52.okS EE.G = true := by kernel_rfl
theorem mm52_run : evT EE [] 1000000000 (.call mm52.f mm52.args) mm52.heap (keptK mm52) = some (.bool true) := by kernel_rfl
theorem mm52_h : mm52.holds EE := ent_run envOk (fun _ h => by cases h) _ _ mm52_ok mm52_run
-- decani/office.Fits, 11921 steps
noncomputable def mm77 : Ent :=
  ⟨24, [.agg ⟨[iP 6, iP 0, .slice (some ⟨6, 0, none⟩) 2 2, .slice none 0 0, .bool false, .slice none 0 0, .bool false, .slice none 0 0]⟩, .agg ⟨[iP 0, iP 1, iP 1]⟩], 7,
   gB ++ [(6, .cells true 0 [iP 0, iP 0, iP 2, iP 1, iP 2, iP 2])],
   [],
   .tuple ⟨[.bool true, iP 0]⟩⟩
theorem mm77_ok : mm77.okS EE.G = true := by kernel_rfl
theorem mm77_run : evT EE [] 1000000000 (.call mm77.f mm77.args) mm77.heap (keptK mm77) = some (.bool true) := by kernel_rfl
theorem mm77_h : mm77.holds EE := ent_run envOk (fun _ h => by cases h) _ _ mm77_ok mm77_run
-- decani/office.Fits, 11388 steps
noncomputable def mm101 : Ent :=
  ⟨24, [.agg ⟨[iP 6, iP 0, .slice (some ⟨6, 0, none⟩) 2 2, .slice none 0 0, .bool false, .slice none 0 0, .bool false, .slice none 0 0]⟩, .agg ⟨[iP 0, iP 4, iP 1]⟩], 7,
   gB ++ [(6, .cells true 0 [iP 0, iP 1, iP 2, iP 2, iP 2, iP 2])],
   [],
   .tuple ⟨[.bool false, iP 0]⟩⟩
theorem mm101_ok : mm101.okS EE.G = true := by kernel_rfl
theorem mm101_run : evT EE [] 1000000000 (.call mm101.f mm101.args) mm101.heap (keptK mm101) = some (.bool true) := by kernel_rfl
theorem mm101_h : mm101.holds EE := ent_run envOk (fun _ h => by cases h) _ _ mm101_ok mm101_run
-- decani/office.Fits, 8500 steps
noncomputable def mm137 : Ent :=
  ⟨24, [.agg ⟨[iP 6, iP 0, .slice (some ⟨6, 0, none⟩) 2 2, .slice none 0 0, .bool false, .slice none 0 0, .bool false, .slice none 0 0]⟩, .agg ⟨[iP 0, iP 2, iP 1]⟩], 7,
   gB ++ [(6, .cells true 0 [iP 2, iP 2, iP 2, iP 2, iP 2, iP 2])],
   [],
   .tuple ⟨[.bool false, iP 0]⟩⟩
theorem mm137_ok : mm137.okS EE.G = true := by kernel_rfl
theorem mm137_run : evT EE [] 1000000000 (.call mm137.f mm137.args) mm137.heap (keptK mm137) = some (.bool true) := by kernel_rfl
theorem mm137_h : mm137.holds EE := ent_run envOk (fun _ h => by cases h) _ _ mm137_ok mm137_run
-- decani/office.Fits, 6848 steps
noncomputable def mm160 : Ent :=
  ⟨24, [.agg ⟨[iP 6, iP 0, .slice (some ⟨6, 0, none⟩) 2 2, .slice none 0 0, .bool false, .slice none 0 0, .bool false, .slice none 0 0]⟩, .agg ⟨[iP 0, iP 0, iP 1]⟩], 7,
   gB ++ [(6, .cells true 0 [iP 2, iP 3, iP 2, iP 4, iP 5, iP 2])],
   [],
   .tuple ⟨[.bool false, iP 0]⟩⟩
theorem mm160_ok : mm160.okS EE.G = true := by kernel_rfl
theorem mm160_run : evT EE [] 1000000000 (.call mm160.f mm160.args) mm160.heap (keptK mm160) = some (.bool true) := by kernel_rfl
theorem mm160_h : mm160.holds EE := ent_run envOk (fun _ h => by cases h) _ _ mm160_ok mm160_run
-- decani/office.Fits, 6382 steps
noncomputable def mm188 : Ent :=
  ⟨24, [.agg ⟨[iP 6, iP 0, .slice (some ⟨6, 0, none⟩) 2 2, .slice none 0 0, .bool false, .slice none 0 0, .bool false, .slice none 0 0]⟩, .agg ⟨[iP 0, iP 0, iP 1]⟩], 7,
   gB ++ [(6, .cells true 0 [iP 0, iP 0, iP 2, iP 1, iP 1, iP 2])],
   [],
   .tuple ⟨[.bool false, iP 0]⟩⟩
theorem mm188_ok : mm188.okS EE.G = true := by kernel_rfl
theorem mm188_run : evT EE [] 1000000000 (.call mm188.f mm188.args) mm188.heap (keptK mm188) = some (.bool true) := by kernel_rfl
theorem mm188_h : mm188.holds EE := ent_run envOk (fun _ h => by cases h) _ _ mm188_ok mm188_run
-- decani/cold.Caught, 3518 steps
noncomputable def mm215 : Ent :=
  ⟨10, [.agg ⟨[iP 3, iP 4, iP 1, iP 0, iP 1, iP 1, iP 1, iP 1, .slice none 0 0, iP 0, .slice none 0 0]⟩, iP 2], 6,
   gB,
   [],
   .tuple ⟨[.agg ⟨[iP 2, iP 2]⟩, iP 0]⟩⟩
theorem mm215_ok : mm215.okS EE.G = true := by kernel_rfl
theorem mm215_run : evT EE [] 1000000000 (.call mm215.f mm215.args) mm215.heap (keptK mm215) = some (.bool true) := by kernel_rfl
theorem mm215_h : mm215.holds EE := ent_run envOk (fun _ h => by cases h) _ _ mm215_ok mm215_run
end Go.Proofs.YtmjpnohpmfmdlaaGreatDoor
