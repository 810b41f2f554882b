/- Known calls, part 4: what single calls hand back, at small heaps, by the kernel's own run of the evaluator. No conditions. -/
import Derived.Test.YtmjpnohpmfmdlaaGreatDoorEnv
set_option linter.all false
namespace Go.Proofs.YtmjpnohpmfmdlaaGreatDoor
open Go.Ai
set_option maxRecDepth 1000000
-- decani/office.Kept, 27136 steps
noncomputable def mm4 : Ent :=
  ⟨11, [.agg ⟨[iP 6, iP 0, .slice (some ⟨6, 0, none⟩) 2 2, .slice none 0 0, .bool false, .slice none 0 0, .bool false, .slice none 0 0]⟩, iP 0, iP 0], 7,
   gB ++ [(6, .cells true 0 [iP 2, iP 3, iP 2, iP 3, iP 4, iP 2])],
   [],
   .tuple ⟨[iP 2, iP 0]⟩⟩
theorem mm4_ok : mm4.okS EE.G = true := by kernel_rfl
theorem mm4_run : evT EE [] 1000000000 (.call mm4.f mm4.args) mm4.heap (keptK mm4) = some (.bool true) := by kernel_rfl
theorem mm4_h : mm4.holds EE := ent_run envOk (fun _ h => by cases h) _ _ mm4_ok mm4_run
-- decani/office.Fits, 14134 steps
noncomputable def mm51 : Ent :=
  ⟨24, [.agg ⟨[iP 6, iP 0, .slice (some ⟨6, 0, none⟩) 2 2, .slice none 0 0, .bool false, .slice none 0 0, .bool false, .slice none 0 0]⟩, .agg ⟨[iP 0, iP 2, iP 1]⟩], 7,
   gB ++ [(6, .cells true 0 [iP 1, iP 1, iP 2, iP 1, iP 2, iP 2])],
   [],
   .tuple ⟨[.bool true, iP 0]⟩⟩
theorem mm51_ok : mm51.okS EE.G = true := by kernel_rfl
theorem mm51_run : evT EE [] 1000000000 (.call mm51.f mm51.args) mm51.heap (keptK mm51) = some (.bool true) := by kernel_rfl
theorem mm51_h : mm51.holds EE := ent_run envOk (fun _ h => by cases h) _ _ mm51_ok mm51_run
-- decani/office.Fits, 11921 steps
noncomputable def mm79 : Ent :=
  ⟨24, [.agg ⟨[iP 6, iP 0, .slice (some ⟨6, 0, none⟩) 2 2, .slice none 0 0, .bool false, .slice none 0 0, .bool false, .slice none 0 0]⟩, .agg ⟨[iP 0, iP 1, iP 1]⟩], 7,
   gB ++ [(6, .cells true 0 [iP 0, iP 1, iP 2, iP 1, iP 2, iP 2])],
   [],
   .tuple ⟨[.bool true, iP 0]⟩⟩
theorem mm79_ok : mm79.okS EE.G = true := by kernel_rfl
theorem mm79_run : evT EE [] 1000000000 (.call mm79.f mm79.args) mm79.heap (keptK mm79) = some (.bool true) := by kernel_rfl
theorem mm79_h : mm79.holds EE := ent_run envOk (fun _ h => by cases h) _ _ mm79_ok mm79_run
-- decani/office.Fits, 11207 steps
noncomputable def mm107 : Ent :=
  ⟨24, [.agg ⟨[iP 6, iP 0, .slice (some ⟨6, 0, none⟩) 2 2, .slice none 0 0, .bool false, .slice none 0 0, .bool false, .slice none 0 0]⟩, .agg ⟨[iP 0, iP 4, iP 1]⟩], 7,
   gB ++ [(6, .cells true 0 [iP 1, iP 1, iP 2, iP 2, iP 3, iP 2])],
   [],
   .tuple ⟨[.bool false, iP 0]⟩⟩
theorem mm107_ok : mm107.okS EE.G = true := by kernel_rfl
theorem mm107_run : evT EE [] 1000000000 (.call mm107.f mm107.args) mm107.heap (keptK mm107) = some (.bool true) := by kernel_rfl
theorem mm107_h : mm107.holds EE := ent_run envOk (fun _ h => by cases h) _ _ mm107_ok mm107_run
-- decani/office.Fits, 8747 steps
noncomputable def mm133 : Ent :=
  ⟨24, [.agg ⟨[iP 6, iP 0, .slice (some ⟨6, 0, none⟩) 2 2, .slice none 0 0, .bool false, .slice none 0 0, .bool false, .slice none 0 0]⟩, .agg ⟨[iP 0, iP 4, iP 1]⟩], 7,
   gB ++ [(6, .cells true 0 [iP 2, iP 2, iP 2, iP 3, iP 3, iP 2])],
   [],
   .tuple ⟨[.bool false, iP 0]⟩⟩
theorem mm133_ok : mm133.okS EE.G = true := by kernel_rfl
theorem mm133_run : evT EE [] 1000000000 (.call mm133.f mm133.args) mm133.heap (keptK mm133) = some (.bool true) := by kernel_rfl
theorem mm133_h : mm133.holds EE := ent_run envOk (fun _ h => by cases h) _ _ mm133_ok mm133_run
-- decani/office.Fits, 6772 steps
noncomputable def mm164 : Ent :=
  ⟨24, [.agg ⟨[iP 6, iP 0, .slice (some ⟨6, 0, none⟩) 2 2, .slice none 0 0, .bool false, .slice none 0 0, .bool false, .slice none 0 0]⟩, .agg ⟨[iP 0, iP 0, iP 1]⟩], 7,
   gB ++ [(6, .cells true 0 [iP 1, iP 1, iP 2, iP 1, iP 1, iP 2])],
   [],
   .tuple ⟨[.bool false, iP 0]⟩⟩
theorem mm164_ok : mm164.okS EE.G = true := by kernel_rfl
theorem mm164_run : evT EE [] 1000000000 (.call mm164.f mm164.args) mm164.heap (keptK mm164) = some (.bool true) := by kernel_rfl
theorem mm164_h : mm164.holds EE := ent_run envOk (fun _ h => by cases h) _ _ mm164_ok mm164_run
-- decani/office.Fits, 6382 steps
noncomputable def mm190 : Ent :=
  ⟨24, [.agg ⟨[iP 6, iP 0, .slice (some ⟨6, 0, none⟩) 2 2, .slice none 0 0, .bool false, .slice none 0 0, .bool false, .slice none 0 0]⟩, .agg ⟨[iP 0, iP 1, iP 1]⟩], 7,
   gB ++ [(6, .cells true 0 [iP 1, iP 1, iP 2, iP 2, iP 2, iP 2])],
   [],
   .tuple ⟨[.bool false, iP 0]⟩⟩
theorem mm190_ok : mm190.okS EE.G = true := by kernel_rfl
theorem mm190_run : evT EE [] 1000000000 (.call mm190.f mm190.args) mm190.heap (keptK mm190) = some (.bool true) := by kernel_rfl
theorem mm190_h : mm190.holds EE := ent_run envOk (fun _ h => by cases h) _ _ mm190_ok mm190_run
-- decani/part.Ways, 3486 steps
noncomputable def mm218 : Ent :=
  ⟨23, [.agg ⟨[iP 1, .slice (some ⟨6, 0, none⟩) 2 2, iP 0, iP 254, iP 0, .slice none 0 0]⟩], 7,
   gB ++ [(6, .cells true 0 [iP 2, iP 3, iP 4, iP 5])],
   [],
   .tuple ⟨[iP 4, iP 0]⟩⟩
theorem mm218_ok : mm218.okS EE.G = true := by kernel_rfl
theorem mm218_run : evT EE [] 1000000000 (.call mm218.f mm218.args) mm218.heap (keptK mm218) = some (.bool true) := by kernel_rfl
theorem mm218_h : mm218.holds EE := ent_run envOk (fun _ h => by cases h) _ _ mm218_ok mm218_run
end Go.Proofs.YtmjpnohpmfmdlaaGreatDoor
