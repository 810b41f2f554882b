/- Known calls, part 0: what single calls hand back, at small heaps, by the kernel's own run of the evaluator. No conditions. -/
import Derived.Test.YtmjpnohpmfmdlaaGreatDoorEnv
set_option linter.all false
namespace Go.Proofs.YtmjpnohpmfmdlaaGreatDoor
open Go.Ai
set_option maxRecDepth 1000000
-- decani/office.Kept, 27455 steps
noncomputable def mm0 : Ent :=
  ⟨11, [.agg ⟨[iP 6, iP 0, .slice (some ⟨6, 0, none⟩) 2 2, .slice none 0 0, .bool false, .slice none 0 0, .bool false, .slice none 0 0]⟩, iP 0, iP 1], 7,
   gB ++ [(6, .cells true 0 [iP 2, iP 3, iP 2, iP 3, iP 4, iP 2])],
   [],
   .tuple ⟨[iP 1, iP 0]⟩⟩
theorem mm0_ok : mm0.okS EE.G = true := by kernel_rfl
theorem mm0_run : evT EE [] 1000000000 (.call mm0.f mm0.args) mm0.heap (keptK mm0) = some (.bool true) := by kernel_rfl
theorem mm0_h : mm0.holds EE := ent_run envOk (fun _ h => by cases h) _ _ mm0_ok mm0_run
-- decani/office.Fits, 13965 steps
noncomputable def mm55 : Ent :=
  ⟨24, [.agg ⟨[iP 6, iP 0, .slice (some ⟨6, 0, none⟩) 2 2, .slice none 0 0, .bool false, .slice none 0 0, .bool false, .slice none 0 0]⟩, .agg ⟨[iP 0, iP 3, iP 1]⟩], 7,
   gB ++ [(6, .cells true 0 [iP 1, iP 2, iP 2, iP 2, iP 3, iP 2])],
   [],
   .tuple ⟨[.bool true, iP 0]⟩⟩
theorem mm55_ok : mm55.okS EE.G = true := by kernel_rfl
theorem mm55_run : evT EE [] 1000000000 (.call mm55.f mm55.args) mm55.heap (keptK mm55) = some (.bool true) := by kernel_rfl
theorem mm55_h : mm55.holds EE := ent_run envOk (fun _ h => by cases h) _ _ mm55_ok mm55_run
-- decani/office.Fits, 11921 steps
noncomputable def mm83 : Ent :=
  ⟨24, [.agg ⟨[iP 6, iP 0, .slice (some ⟨6, 0, none⟩) 2 2, .slice none 0 0, .bool false, .slice none 0 0, .bool false, .slice none 0 0]⟩, .agg ⟨[iP 0, iP 2, iP 1]⟩], 7,
   gB ++ [(6, .cells true 0 [iP 1, iP 1, iP 2, iP 2, iP 3, iP 2])],
   [],
   .tuple ⟨[.bool true, iP 0]⟩⟩
theorem mm83_ok : mm83.okS EE.G = true := by kernel_rfl
theorem mm83_run : evT EE [] 1000000000 (.call mm83.f mm83.args) mm83.heap (keptK mm83) = some (.bool true) := by kernel_rfl
theorem mm83_h : mm83.holds EE := ent_run envOk (fun _ h => by cases h) _ _ mm83_ok mm83_run
-- decani/office.Fits, 10960 steps
noncomputable def mm111 : Ent :=
  ⟨24, [.agg ⟨[iP 6, iP 0, .slice (some ⟨6, 0, none⟩) 2 2, .slice none 0 0, .bool false, .slice none 0 0, .bool false, .slice none 0 0]⟩, .agg ⟨[iP 0, iP 3, iP 1]⟩], 7,
   gB ++ [(6, .cells true 0 [iP 0, iP 0, iP 2, iP 0, iP 1, iP 2])],
   [],
   .tuple ⟨[.bool false, iP 0]⟩⟩
theorem mm111_ok : mm111.okS EE.G = true := by kernel_rfl
theorem mm111_run : evT EE [] 1000000000 (.call mm111.f mm111.args) mm111.heap (keptK mm111) = some (.bool true) := by kernel_rfl
theorem mm111_h : mm111.holds EE := ent_run envOk (fun _ h => by cases h) _ _ mm111_ok mm111_run
-- decani/office.Fits, 8916 steps
noncomputable def mm128 : Ent :=
  ⟨24, [.agg ⟨[iP 6, iP 0, .slice (some ⟨6, 0, none⟩) 2 2, .slice none 0 0, .bool false, .slice none 0 0, .bool false, .slice none 0 0]⟩, .agg ⟨[iP 0, iP 3, iP 1]⟩], 7,
   gB ++ [(6, .cells true 0 [iP 0, iP 0, iP 2, iP 0, iP 0, iP 2])],
   [],
   .tuple ⟨[.bool false, iP 0]⟩⟩
theorem mm128_ok : mm128.okS EE.G = true := by kernel_rfl
theorem mm128_run : evT EE [] 1000000000 (.call mm128.f mm128.args) mm128.heap (keptK mm128) = some (.bool true) := by kernel_rfl
theorem mm128_h : mm128.holds EE := ent_run envOk (fun _ h => by cases h) _ _ mm128_ok mm128_run
-- decani/office.Fits, 6772 steps
noncomputable def mm165 : Ent :=
  ⟨24, [.agg ⟨[iP 6, iP 0, .slice (some ⟨6, 0, none⟩) 2 2, .slice none 0 0, .bool false, .slice none 0 0, .bool false, .slice none 0 0]⟩, .agg ⟨[iP 0, iP 0, iP 1]⟩], 7,
   gB ++ [(6, .cells true 0 [iP 2, iP 2, iP 2, iP 2, iP 2, iP 2])],
   [],
   .tuple ⟨[.bool false, iP 0]⟩⟩
theorem mm165_ok : mm165.okS EE.G = true := by kernel_rfl
theorem mm165_run : evT EE [] 1000000000 (.call mm165.f mm165.args) mm165.heap (keptK mm165) = some (.bool true) := by kernel_rfl
theorem mm165_h : mm165.holds EE := ent_run envOk (fun _ h => by cases h) _ _ mm165_ok mm165_run
-- decani/office.Fits, 6382 steps
noncomputable def mm192 : Ent :=
  ⟨24, [.agg ⟨[iP 6, iP 0, .slice (some ⟨6, 0, none⟩) 2 2, .slice none 0 0, .bool false, .slice none 0 0, .bool false, .slice none 0 0]⟩, .agg ⟨[iP 0, iP 1, iP 1]⟩], 7,
   gB ++ [(6, .cells true 0 [iP 2, iP 2, iP 2, iP 3, iP 3, iP 2])],
   [],
   .tuple ⟨[.bool false, iP 0]⟩⟩
theorem mm192_ok : mm192.okS EE.G = true := by kernel_rfl
theorem mm192_run : evT EE [] 1000000000 (.call mm192.f mm192.args) mm192.heap (keptK mm192) = some (.bool true) := by kernel_rfl
theorem mm192_h : mm192.holds EE := ent_run envOk (fun _ h => by cases h) _ _ mm192_ok mm192_run
-- decani/part.Ways, 2550 steps
noncomputable def mm222 : Ent :=
  ⟨23, [.agg ⟨[iP 1, .slice (some ⟨6, 0, none⟩) 2 2, iP 0, iP 254, iP 0, .slice none 0 0]⟩], 7,
   gB ++ [(6, .cells true 0 [iP 0, iP 1, iP 2, iP 2])],
   [],
   .tuple ⟨[iP 2, iP 0]⟩⟩
theorem mm222_ok : mm222.okS EE.G = true := by kernel_rfl
theorem mm222_run : evT EE [] 1000000000 (.call mm222.f mm222.args) mm222.heap (keptK mm222) = some (.bool true) := by kernel_rfl
theorem mm222_h : mm222.holds EE := ent_run envOk (fun _ h => by cases h) _ _ mm222_ok mm222_run
end Go.Proofs.YtmjpnohpmfmdlaaGreatDoor
