/- Known calls, part 15: what single calls hand back, at small heaps, by the kernel's own run of the evaluator. No conditions. -/
import Derived.Test.YtmjpnohpmfmdlaaGreatDoorEnv
set_option linter.all false
namespace Go.Proofs.YtmjpnohpmfmdlaaGreatDoor
open Go.Ai
set_option maxRecDepth 1000000
-- decani/office.Fits, 17972 steps
noncomputable def mm15 : Ent :=
  ⟨24, [.agg ⟨[iP 6, iP 0, .slice (some ⟨6, 0, none⟩) 2 2, .slice none 0 0, .bool false, .slice none 0 0, .bool false, .slice none 0 0]⟩, .agg ⟨[iP 0, iP 5, iP 1]⟩], 7,
   gB ++ [(6, .cells true 0 [iP 0, iP 1, iP 2, iP 2, iP 3, iP 2])],
   [],
   .tuple ⟨[.bool false, iP 0]⟩⟩
theorem mm15_ok : mm15.okS EE.G = true := by kernel_rfl
theorem mm15_run : evT EE [] 1000000000 (.call mm15.f mm15.args) mm15.heap (keptK mm15) = some (.bool true) := by kernel_rfl
theorem mm15_h : mm15.holds EE := ent_run envOk (fun _ h => by cases h) _ _ mm15_ok mm15_run
-- decani/office.Fits, 16308 steps
noncomputable def mm39 : Ent :=
  ⟨24, [.agg ⟨[iP 6, iP 0, .slice (some ⟨6, 0, none⟩) 2 2, .slice none 0 0, .bool false, .slice none 0 0, .bool false, .slice none 0 0]⟩, .agg ⟨[iP 0, iP 4, iP 1]⟩], 7,
   gB ++ [(6, .cells true 0 [iP 0, iP 1, iP 2, iP 2, iP 3, iP 2])],
   [],
   .tuple ⟨[.bool false, iP 0]⟩⟩
theorem mm39_ok : mm39.okS EE.G = true := by kernel_rfl
theorem mm39_run : evT EE [] 1000000000 (.call mm39.f mm39.args) mm39.heap (keptK mm39) = some (.bool true) := by kernel_rfl
theorem mm39_h : mm39.holds EE := ent_run envOk (fun _ h => by cases h) _ _ mm39_ok mm39_run
-- decani/office.Kept, 12176 steps
noncomputable def mm68 : Ent :=
  ⟨11, [.agg ⟨[iP 6, iP 0, .slice (some ⟨6, 0, none⟩) 2 2, .slice none 0 0, .bool false, .slice none 0 0, .bool false, .slice none 0 0]⟩, iP 0, iP 1], 7,
   gB ++ [(6, .cells true 0 [iP 0, iP 0, iP 2, iP 0, iP 0, iP 2])],
   [],
   .tuple ⟨[iP 0, iP 0]⟩⟩
theorem mm68_ok : mm68.okS EE.G = true := by kernel_rfl
theorem mm68_run : evT EE [] 1000000000 (.call mm68.f mm68.args) mm68.heap (keptK mm68) = some (.bool true) := by kernel_rfl
theorem mm68_h : mm68.holds EE := ent_run envOk (fun _ h => by cases h) _ _ mm68_ok mm68_run
-- decani/office.Fits, 11921 steps
noncomputable def mm92 : Ent :=
  ⟨24, [.agg ⟨[iP 6, iP 0, .slice (some ⟨6, 0, none⟩) 2 2, .slice none 0 0, .bool false, .slice none 0 0, .bool false, .slice none 0 0]⟩, .agg ⟨[iP 0, iP 4, iP 1]⟩], 7,
   gB ++ [(6, .cells true 0 [iP 2, iP 3, iP 2, iP 4, iP 4, iP 2])],
   [],
   .tuple ⟨[.bool true, iP 0]⟩⟩
theorem mm92_ok : mm92.okS EE.G = true := by kernel_rfl
theorem mm92_run : evT EE [] 1000000000 (.call mm92.f mm92.args) mm92.heap (keptK mm92) = some (.bool true) := by kernel_rfl
theorem mm92_h : mm92.holds EE := ent_run envOk (fun _ h => by cases h) _ _ mm92_ok mm92_run
-- decani/office.Fits, 9332 steps
noncomputable def mm122 : Ent :=
  ⟨24, [.agg ⟨[iP 6, iP 0, .slice (some ⟨6, 0, none⟩) 2 2, .slice none 0 0, .bool false, .slice none 0 0, .bool false, .slice none 0 0]⟩, .agg ⟨[iP 0, iP 4, iP 1]⟩], 7,
   gB ++ [(6, .cells true 0 [iP 0, iP 0, iP 2, iP 0, iP 0, iP 2])],
   [],
   .tuple ⟨[.bool false, iP 0]⟩⟩
theorem mm122_ok : mm122.okS EE.G = true := by kernel_rfl
theorem mm122_run : evT EE [] 1000000000 (.call mm122.f mm122.args) mm122.heap (keptK mm122) = some (.bool true) := by kernel_rfl
theorem mm122_h : mm122.holds EE := ent_run envOk (fun _ h => by cases h) _ _ mm122_ok mm122_run
-- decani/office.Fits, 8179 steps
noncomputable def mm140 : Ent :=
  ⟨24, [.agg ⟨[iP 6, iP 0, .slice (some ⟨6, 0, none⟩) 2 2, .slice none 0 0, .bool false, .slice none 0 0, .bool false, .slice none 0 0]⟩, .agg ⟨[iP 0, iP 1, iP 1]⟩], 7,
   gB ++ [(6, .cells true 0 [iP 1, iP 1, iP 2, iP 1, iP 2, iP 2])],
   [],
   .tuple ⟨[.bool false, iP 0]⟩⟩
theorem mm140_ok : mm140.okS EE.G = true := by kernel_rfl
theorem mm140_run : evT EE [] 1000000000 (.call mm140.f mm140.args) mm140.heap (keptK mm140) = some (.bool true) := by kernel_rfl
theorem mm140_h : mm140.holds EE := ent_run envOk (fun _ h => by cases h) _ _ mm140_ok mm140_run
-- decani/office.Fits, 6477 steps
noncomputable def mm183 : Ent :=
  ⟨24, [.agg ⟨[iP 6, iP 0, .slice (some ⟨6, 0, none⟩) 2 2, .slice none 0 0, .bool false, .slice none 0 0, .bool false, .slice none 0 0]⟩, .agg ⟨[iP 0, iP 0, iP 1]⟩], 7,
   gB ++ [(6, .cells true 0 [iP 1, iP 1, iP 2, iP 2, iP 3, iP 2])],
   [],
   .tuple ⟨[.bool false, iP 0]⟩⟩
theorem mm183_ok : mm183.okS EE.G = true := by kernel_rfl
theorem mm183_run : evT EE [] 1000000000 (.call mm183.f mm183.args) mm183.heap (keptK mm183) = some (.bool true) := by kernel_rfl
theorem mm183_h : mm183.holds EE := ent_run envOk (fun _ h => by cases h) _ _ mm183_ok mm183_run
-- decani/part.Notes, 4190 steps
noncomputable def mm210 : Ent :=
  ⟨25, [.agg ⟨[iP 1, .slice (some ⟨6, 0, none⟩) 2 2, iP 0, iP 254, iP 0, .slice none 0 0]⟩, iP 1, iP 0], 7,
   gB ++ [(6, .cells true 0 [iP 0, iP 0, iP 0, iP 1])],
   [.cells true 2 [iP 1]],
   .tuple ⟨[.slice (some ⟨7, 0, none⟩) 1 18446744073709551616, iP 0]⟩⟩
theorem mm210_ok : mm210.okS EE.G = true := by kernel_rfl
theorem mm210_run : evT EE [] 1000000000 (.call mm210.f mm210.args) mm210.heap (keptK mm210) = some (.bool true) := by kernel_rfl
theorem mm210_h : mm210.holds EE := ent_run envOk (fun _ h => by cases h) _ _ mm210_ok mm210_run
-- decani/part.Ways, 2325 steps
noncomputable def mm227 : Ent :=
  ⟨23, [.agg ⟨[iP 1, .slice (some ⟨6, 0, none⟩) 2 2, iP 0, iP 254, iP 0, .slice none 0 0]⟩], 7,
   gB ++ [(6, .cells true 0 [iP 2, iP 3, iP 3, iP 3])],
   [],
   .tuple ⟨[iP 1, iP 0]⟩⟩
theorem mm227_ok : mm227.okS EE.G = true := by kernel_rfl
theorem mm227_run : evT EE [] 1000000000 (.call mm227.f mm227.args) mm227.heap (keptK mm227) = some (.bool true) := by kernel_rfl
theorem mm227_h : mm227.holds EE := ent_run envOk (fun _ h => by cases h) _ _ mm227_ok mm227_run
end Go.Proofs.YtmjpnohpmfmdlaaGreatDoor
