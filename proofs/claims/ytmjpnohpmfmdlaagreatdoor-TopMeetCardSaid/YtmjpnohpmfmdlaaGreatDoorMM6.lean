/- Known calls, part 6: what single calls hand back, at small heaps, by the kernel's own run of the evaluator. No conditions. -/
import Derived.Test.YtmjpnohpmfmdlaaGreatDoorEnv
set_option linter.all false
namespace Go.Proofs.YtmjpnohpmfmdlaaGreatDoor
open Go.Ai
set_option maxRecDepth 1000000
-- decani/office.Kept, 26932 steps
noncomputable def mm6 : Ent :=
  ⟨11, [.agg ⟨[iP 6, iP 0, .slice (some ⟨6, 0, none⟩) 2 2, .slice none 0 0, .bool false, .slice none 0 0, .bool false, .slice none 0 0]⟩, iP 0, iP 0], 7,
   gB ++ [(6, .cells true 0 [iP 1, iP 2, iP 2, iP 2, iP 3, iP 2])],
   [],
   .tuple ⟨[iP 2, iP 0]⟩⟩
theorem mm6_ok : mm6.okS EE.G = true := by kernel_rfl
theorem mm6_run : evT EE [] 1000000000 (.call mm6.f mm6.args) mm6.heap (keptK mm6) = some (.bool true) := by kernel_rfl
theorem mm6_h : mm6.holds EE := ent_run envOk (fun _ h => by cases h) _ _ mm6_ok mm6_run
-- decani/office.Fits, 14381 steps
noncomputable def mm49 : Ent :=
  ⟨24, [.agg ⟨[iP 6, iP 0, .slice (some ⟨6, 0, none⟩) 2 2, .slice none 0 0, .bool false, .slice none 0 0, .bool false, .slice none 0 0]⟩, .agg ⟨[iP 0, iP 4, iP 1]⟩], 7,
   gB ++ [(6, .cells true 0 [iP 2, iP 3, iP 2, iP 3, iP 4, iP 2])],
   [],
   .tuple ⟨[.bool true, iP 0]⟩⟩
theorem mm49_ok : mm49.okS EE.G = true := by kernel_rfl
theorem mm49_run : evT EE [] 1000000000 (.call mm49.f mm49.args) mm49.heap (keptK mm49) = some (.bool true) := by kernel_rfl
theorem mm49_h : mm49.holds EE := ent_run envOk (fun _ h => by cases h) _ _ mm49_ok mm49_run
-- decani/office.Fits, 11921 steps
noncomputable def mm81 : Ent :=
  ⟨24, [.agg ⟨[iP 6, iP 0, .slice (some ⟨6, 0, none⟩) 2 2, .slice none 0 0, .bool false, .slice none 0 0, .bool false, .slice none 0 0]⟩, .agg ⟨[iP 0, iP 2, iP 1]⟩], 7,
   gB ++ [(6, .cells true 0 [iP 0, iP 1, iP 2, iP 2, iP 3, iP 2])],
   [],
   .tuple ⟨[.bool true, iP 0]⟩⟩
theorem mm81_ok : mm81.okS EE.G = true := by kernel_rfl
theorem mm81_run : evT EE [] 1000000000 (.call mm81.f mm81.args) mm81.heap (keptK mm81) = some (.bool true) := by kernel_rfl
theorem mm81_h : mm81.holds EE := ent_run envOk (fun _ h => by cases h) _ _ mm81_ok mm81_run
-- decani/office.Kept, 11186 steps
noncomputable def mm109 : Ent :=
  ⟨11, [.agg ⟨[iP 6, iP 0, .slice (some ⟨6, 0, none⟩) 2 2, .slice none 0 0, .bool false, .slice none 0 0, .bool false, .slice none 0 0]⟩, iP 0, iP 0], 7,
   gB ++ [(6, .cells true 0 [iP 1, iP 1, iP 2, iP 2, iP 2, iP 2])],
   [],
   .tuple ⟨[iP 2, iP 0]⟩⟩
theorem mm109_ok : mm109.okS EE.G = true := by kernel_rfl
theorem mm109_run : evT EE [] 1000000000 (.call mm109.f mm109.args) mm109.heap (keptK mm109) = some (.bool true) := by kernel_rfl
theorem mm109_h : mm109.holds EE := ent_run envOk (fun _ h => by cases h) _ _ mm109_ok mm109_run
-- decani/office.Fits, 8500 steps
noncomputable def mm135 : Ent :=
  ⟨24, [.agg ⟨[iP 6, iP 0, .slice (some ⟨6, 0, none⟩) 2 2, .slice none 0 0, .bool false, .slice none 0 0, .bool false, .slice none 0 0]⟩, .agg ⟨[iP 0, iP 2, iP 1]⟩], 7,
   gB ++ [(6, .cells true 0 [iP 0, iP 0, iP 2, iP 0, iP 0, iP 2])],
   [],
   .tuple ⟨[.bool false, iP 0]⟩⟩
theorem mm135_ok : mm135.okS EE.G = true := by kernel_rfl
theorem mm135_run : evT EE [] 1000000000 (.call mm135.f mm135.args) mm135.heap (keptK mm135) = some (.bool true) := by kernel_rfl
theorem mm135_h : mm135.holds EE := ent_run envOk (fun _ h => by cases h) _ _ mm135_ok mm135_run
-- decani/office.Fits, 6848 steps
noncomputable def mm157 : Ent :=
  ⟨24, [.agg ⟨[iP 6, iP 0, .slice (some ⟨6, 0, none⟩) 2 2, .slice none 0 0, .bool false, .slice none 0 0, .bool false, .slice none 0 0]⟩, .agg ⟨[iP 0, iP 0, iP 1]⟩], 7,
   gB ++ [(6, .cells true 0 [iP 2, iP 3, iP 2, iP 3, iP 4, iP 2])],
   [],
   .tuple ⟨[.bool false, iP 0]⟩⟩
theorem mm157_ok : mm157.okS EE.G = true := by kernel_rfl
theorem mm157_run : evT EE [] 1000000000 (.call mm157.f mm157.args) mm157.heap (keptK mm157) = some (.bool true) := by kernel_rfl
theorem mm157_h : mm157.holds EE := ent_run envOk (fun _ h => by cases h) _ _ mm157_ok mm157_run
-- decani/office.Fits, 6477 steps
noncomputable def mm185 : Ent :=
  ⟨24, [.agg ⟨[iP 6, iP 0, .slice (some ⟨6, 0, none⟩) 2 2, .slice none 0 0, .bool false, .slice none 0 0, .bool false, .slice none 0 0]⟩, .agg ⟨[iP 0, iP 0, iP 1]⟩], 7,
   gB ++ [(6, .cells true 0 [iP 2, iP 2, iP 2, iP 3, iP 4, iP 2])],
   [],
   .tuple ⟨[.bool false, iP 0]⟩⟩
theorem mm185_ok : mm185.okS EE.G = true := by kernel_rfl
theorem mm185_run : evT EE [] 1000000000 (.call mm185.f mm185.args) mm185.heap (keptK mm185) = some (.bool true) := by kernel_rfl
theorem mm185_h : mm185.holds EE := ent_run envOk (fun _ h => by cases h) _ _ mm185_ok mm185_run
-- decani/part.Notes, 3704 steps
noncomputable def mm214 : Ent :=
  ⟨25, [.agg ⟨[iP 1, .slice (some ⟨6, 0, none⟩) 2 2, iP 0, iP 254, iP 0, .slice none 0 0]⟩, iP 1, iP 0], 7,
   gB ++ [(6, .cells true 0 [iP 2, iP 2, iP 3, iP 3])],
   [.cells true 2 [iP 3]],
   .tuple ⟨[.slice (some ⟨7, 0, none⟩) 1 18446744073709551616, iP 0]⟩⟩
theorem mm214_ok : mm214.okS EE.G = true := by kernel_rfl
theorem mm214_run : evT EE [] 1000000000 (.call mm214.f mm214.args) mm214.heap (keptK mm214) = some (.bool true) := by kernel_rfl
theorem mm214_h : mm214.holds EE := ent_run envOk (fun _ h => by cases h) _ _ mm214_ok mm214_run
end Go.Proofs.YtmjpnohpmfmdlaaGreatDoor
