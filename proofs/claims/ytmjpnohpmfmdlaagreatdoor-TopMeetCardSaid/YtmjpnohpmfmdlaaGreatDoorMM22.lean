/- Known calls, part 22: what single calls hand back, at small heaps, by the kernel's own run of the evaluator. No conditions. -/
import Derived.Test.YtmjpnohpmfmdlaaGreatDoorEnv
set_option linter.all false
namespace Go.Proofs.YtmjpnohpmfmdlaaGreatDoor
open Go.Ai
set_option maxRecDepth 1000000
-- decani/office.Kept, 17011 steps
noncomputable def mm22 : Ent :=
  ⟨11, [.agg ⟨[iP 6, iP 0, .slice (some ⟨6, 0, none⟩) 2 2, .slice none 0 0, .bool false, .slice none 0 0, .bool false, .slice none 0 0]⟩, iP 0, iP 0], 7,
   gB ++ [(6, .cells true 0 [iP 1, iP 1, iP 2, iP 1, iP 2, iP 2])],
   [],
   .tuple ⟨[iP 2, iP 0]⟩⟩
theorem mm22_ok : mm22.okS EE.G = true := by kernel_rfl
theorem mm22_run : evT EE [] 1000000000 (.call mm22.f mm22.args) mm22.heap (keptK mm22) = some (.bool true) := by kernel_rfl
theorem mm22_h : mm22.holds EE := ent_run envOk (fun _ h => by cases h) _ _ mm22_ok mm22_run
-- decani/office.Kept, 16503 steps
noncomputable def mm33 : Ent :=
  ⟨11, [.agg ⟨[iP 6, iP 0, .slice (some ⟨6, 0, none⟩) 2 2, .slice none 0 0, .bool false, .slice none 0 0, .bool false, .slice none 0 0]⟩, iP 0, iP 0], 7,
   gB ++ [(6, .cells true 0 [iP 2, iP 3, iP 2, iP 4, iP 4, iP 2])],
   [],
   .tuple ⟨[iP 2, iP 0]⟩⟩
theorem mm33_ok : mm33.okS EE.G = true := by kernel_rfl
theorem mm33_run : evT EE [] 1000000000 (.call mm33.f mm33.args) mm33.heap (keptK mm33) = some (.bool true) := by kernel_rfl
theorem mm33_h : mm33.holds EE := ent_run envOk (fun _ h => by cases h) _ _ mm33_ok mm33_run
-- decani/office.Fits, 12624 steps
noncomputable def mm60 : Ent :=
  ⟨24, [.agg ⟨[iP 6, iP 0, .slice (some ⟨6, 0, none⟩) 2 2, .slice none 0 0, .bool false, .slice none 0 0, .bool false, .slice none 0 0]⟩, .agg ⟨[iP 0, iP 5, iP 1]⟩], 7,
   gB ++ [(6, .cells true 0 [iP 1, iP 1, iP 2, iP 1, iP 2, iP 2])],
   [],
   .tuple ⟨[.bool false, iP 0]⟩⟩
theorem mm60_ok : mm60.okS EE.G = true := by kernel_rfl
theorem mm60_run : evT EE [] 1000000000 (.call mm60.f mm60.args) mm60.heap (keptK mm60) = some (.bool true) := by kernel_rfl
theorem mm60_h : mm60.holds EE := ent_run envOk (fun _ h => by cases h) _ _ mm60_ok mm60_run
-- decani/office.Fits, 11921 steps
noncomputable def mm90 : Ent :=
  ⟨24, [.agg ⟨[iP 6, iP 0, .slice (some ⟨6, 0, none⟩) 2 2, .slice none 0 0, .bool false, .slice none 0 0, .bool false, .slice none 0 0]⟩, .agg ⟨[iP 0, iP 3, iP 1]⟩], 7,
   gB ++ [(6, .cells true 0 [iP 2, iP 3, iP 2, iP 3, iP 3, iP 2])],
   [],
   .tuple ⟨[.bool true, iP 0]⟩⟩
theorem mm90_ok : mm90.okS EE.G = true := by kernel_rfl
theorem mm90_run : evT EE [] 1000000000 (.call mm90.f mm90.args) mm90.heap (keptK mm90) = some (.bool true) := by kernel_rfl
theorem mm90_h : mm90.holds EE := ent_run envOk (fun _ h => by cases h) _ _ mm90_ok mm90_run
-- decani/office.Fits, 9919 steps
noncomputable def mm118 : Ent :=
  ⟨24, [.agg ⟨[iP 6, iP 0, .slice (some ⟨6, 0, none⟩) 2 2, .slice none 0 0, .bool false, .slice none 0 0, .bool false, .slice none 0 0]⟩, .agg ⟨[iP 0, iP 2, iP 1]⟩], 7,
   gB ++ [(6, .cells true 0 [iP 0, iP 1, iP 2, iP 1, iP 1, iP 2])],
   [],
   .tuple ⟨[.bool false, iP 0]⟩⟩
theorem mm118_ok : mm118.okS EE.G = true := by kernel_rfl
theorem mm118_run : evT EE [] 1000000000 (.call mm118.f mm118.args) mm118.heap (keptK mm118) = some (.bool true) := by kernel_rfl
theorem mm118_h : mm118.holds EE := ent_run envOk (fun _ h => by cases h) _ _ mm118_ok mm118_run
-- decani/office.Fits, 6867 steps
noncomputable def mm147 : Ent :=
  ⟨24, [.agg ⟨[iP 6, iP 0, .slice (some ⟨6, 0, none⟩) 2 2, .slice none 0 0, .bool false, .slice none 0 0, .bool false, .slice none 0 0]⟩, .agg ⟨[iP 0, iP 0, iP 1]⟩], 7,
   gB ++ [(6, .cells true 0 [iP 2, iP 2, iP 2, iP 2, iP 3, iP 2])],
   [],
   .tuple ⟨[.bool false, iP 0]⟩⟩
theorem mm147_ok : mm147.okS EE.G = true := by kernel_rfl
theorem mm147_run : evT EE [] 1000000000 (.call mm147.f mm147.args) mm147.heap (keptK mm147) = some (.bool true) := by kernel_rfl
theorem mm147_h : mm147.holds EE := ent_run envOk (fun _ h => by cases h) _ _ mm147_ok mm147_run
-- decani/office.Fits, 6658 steps
noncomputable def mm169 : Ent :=
  ⟨24, [.agg ⟨[iP 6, iP 0, .slice (some ⟨6, 0, none⟩) 2 2, .slice none 0 0, .bool false, .slice none 0 0, .bool false, .slice none 0 0]⟩, .agg ⟨[iP 0, iP 1, iP 1]⟩], 7,
   gB ++ [(6, .cells true 0 [iP 0, iP 1, iP 2, iP 2, iP 2, iP 2])],
   [],
   .tuple ⟨[.bool false, iP 0]⟩⟩
theorem mm169_ok : mm169.okS EE.G = true := by kernel_rfl
theorem mm169_run : evT EE [] 1000000000 (.call mm169.f mm169.args) mm169.heap (keptK mm169) = some (.bool true) := by kernel_rfl
theorem mm169_h : mm169.holds EE := ent_run envOk (fun _ h => by cases h) _ _ mm169_ok mm169_run
-- decani/part.Notes, 5773 steps
noncomputable def mm197 : Ent :=
  ⟨25, [.agg ⟨[iP 1, .slice (some ⟨6, 0, none⟩) 2 2, iP 0, iP 254, iP 0, .slice none 0 0]⟩, iP 1, iP 0], 7,
   gB ++ [(6, .cells true 0 [iP 0, iP 1, iP 1, iP 2])],
   [.cells true 2 [iP 1, iP 2]],
   .tuple ⟨[.slice (some ⟨7, 0, none⟩) 2 18446744073709551616, iP 0]⟩⟩
theorem mm197_ok : mm197.okS EE.G = true := by kernel_rfl
theorem mm197_run : evT EE [] 1000000000 (.call mm197.f mm197.args) mm197.heap (keptK mm197) = some (.bool true) := by kernel_rfl
theorem mm197_h : mm197.holds EE := ent_run envOk (fun _ h => by cases h) _ _ mm197_ok mm197_run
-- decani/part.Ways, 1692 steps
noncomputable def mm236 : Ent :=
  ⟨23, [.agg ⟨[iP 1, .slice (some ⟨6, 0, none⟩) 2 2, iP 0, iP 254, iP 0, .slice none 0 0]⟩], 7,
   gB ++ [(6, .cells true 0 [iP 2, iP 2, iP 3, iP 3])],
   [],
   .tuple ⟨[iP 1, iP 0]⟩⟩
theorem mm236_ok : mm236.okS EE.G = true := by kernel_rfl
theorem mm236_run : evT EE [] 1000000000 (.call mm236.f mm236.args) mm236.heap (keptK mm236) = some (.bool true) := by kernel_rfl
theorem mm236_h : mm236.holds EE := ent_run envOk (fun _ h => by cases h) _ _ mm236_ok mm236_run
end Go.Proofs.YtmjpnohpmfmdlaaGreatDoor
