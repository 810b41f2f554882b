/- Known calls, part 14: what single calls hand back, at small heaps, by the kernel's own run of the evaluator. No conditions. -/
import Derived.Test.YtmjpnohpmfmdlaaGreatDoorEnv
set_option linter.all false
namespace Go.Proofs.YtmjpnohpmfmdlaaGreatDoor
open Go.Ai
set_option maxRecDepth 1000000
-- decani/office.Fits, 18167 steps
noncomputable def mm14 : Ent :=
  ⟨24, [.agg ⟨[iP 6, iP 0, .slice (some ⟨6, 0, none⟩) 2 2, .slice none 0 0, .bool false, .slice none 0 0, .bool false, .slice none 0 0]⟩, .agg ⟨[iP 0, iP 5, iP 1]⟩], 7,
   gB ++ [(6, .cells true 0 [iP 2, iP 3, iP 2, iP 3, iP 4, iP 2])],
   [],
   .tuple ⟨[.bool false, iP 0]⟩⟩
theorem mm14_ok : mm14.okS EE.G = true := by kernel_rfl
theorem mm14_run : evT EE [] 1000000000 (.call mm14.f mm14.args) mm14.heap (keptK mm14) = some (.bool true) := by kernel_rfl
theorem mm14_h : mm14.holds EE := ent_run envOk (fun _ h => by cases h) _ _ mm14_ok mm14_run
-- decani/office.Kept, 16129 steps
noncomputable def mm43 : Ent :=
  ⟨11, [.agg ⟨[iP 6, iP 0, .slice (some ⟨6, 0, none⟩) 2 2, .slice none 0 0, .bool false, .slice none 0 0, .bool false, .slice none 0 0]⟩, iP 0, iP 0], 7,
   gB ++ [(6, .cells true 0 [iP 0, iP 0, iP 2, iP 1, iP 2, iP 2])],
   [],
   .tuple ⟨[iP 2, iP 0]⟩⟩
theorem mm43_ok : mm43.okS EE.G = true := by kernel_rfl
theorem mm43_run : evT EE [] 1000000000 (.call mm43.f mm43.args) mm43.heap (keptK mm43) = some (.bool true) := by kernel_rfl
theorem mm43_h : mm43.holds EE := ent_run envOk (fun _ h => by cases h) _ _ mm43_ok mm43_run
-- decani/office.Kept, 12176 steps
noncomputable def mm69 : Ent :=
  ⟨11, [.agg ⟨[iP 6, iP 0, .slice (some ⟨6, 0, none⟩) 2 2, .slice none 0 0, .bool false, .slice none 0 0, .bool false, .slice none 0 0]⟩, iP 0, iP 1], 7,
   gB ++ [(6, .cells true 0 [iP 1, iP 1, iP 2, iP 1, iP 1, iP 2])],
   [],
   .tuple ⟨[iP 0, iP 0]⟩⟩
theorem mm69_ok : mm69.okS EE.G = true := by kernel_rfl
theorem mm69_run : evT EE [] 1000000000 (.call mm69.f mm69.args) mm69.heap (keptK mm69) = some (.bool true) := by kernel_rfl
theorem mm69_h : mm69.holds EE := ent_run envOk (fun _ h => by cases h) _ _ mm69_ok mm69_run
-- decani/office.Fits, 11921 steps
noncomputable def mm93 : Ent :=
  ⟨24, [.agg ⟨[iP 6, iP 0, .slice (some ⟨6, 0, none⟩) 2 2, .slice none 0 0, .bool false, .slice none 0 0, .bool false, .slice none 0 0]⟩, .agg ⟨[iP 0, iP 4, iP 1]⟩], 7,
   gB ++ [(6, .cells true 0 [iP 2, iP 3, iP 2, iP 4, iP 5, iP 2])],
   [],
   .tuple ⟨[.bool true, iP 0]⟩⟩
theorem mm93_ok : mm93.okS EE.G = true := by kernel_rfl
theorem mm93_run : evT EE [] 1000000000 (.call mm93.f mm93.args) mm93.heap (keptK mm93) = some (.bool true) := by kernel_rfl
theorem mm93_h : mm93.holds EE := ent_run envOk (fun _ h => by cases h) _ _ mm93_ok mm93_run
-- decani/office.Fits, 9332 steps
noncomputable def mm123 : Ent :=
  ⟨24, [.agg ⟨[iP 6, iP 0, .slice (some ⟨6, 0, none⟩) 2 2, .slice none 0 0, .bool false, .slice none 0 0, .bool false, .slice none 0 0]⟩, .agg ⟨[iP 0, iP 4, iP 1]⟩], 7,
   gB ++ [(6, .cells true 0 [iP 1, iP 1, iP 2, iP 1, iP 1, iP 2])],
   [],
   .tuple ⟨[.bool false, iP 0]⟩⟩
theorem mm123_ok : mm123.okS EE.G = true := by kernel_rfl
theorem mm123_run : evT EE [] 1000000000 (.call mm123.f mm123.args) mm123.heap (keptK mm123) = some (.bool true) := by kernel_rfl
theorem mm123_h : mm123.holds EE := ent_run envOk (fun _ h => by cases h) _ _ mm123_ok mm123_run
-- decani/office.Fits, 8084 steps
noncomputable def mm141 : Ent :=
  ⟨24, [.agg ⟨[iP 6, iP 0, .slice (some ⟨6, 0, none⟩) 2 2, .slice none 0 0, .bool false, .slice none 0 0, .bool false, .slice none 0 0]⟩, .agg ⟨[iP 0, iP 1, iP 1]⟩], 7,
   gB ++ [(6, .cells true 0 [iP 0, iP 0, iP 2, iP 0, iP 0, iP 2])],
   [],
   .tuple ⟨[.bool false, iP 0]⟩⟩
theorem mm141_ok : mm141.okS EE.G = true := by kernel_rfl
theorem mm141_run : evT EE [] 1000000000 (.call mm141.f mm141.args) mm141.heap (keptK mm141) = some (.bool true) := by kernel_rfl
theorem mm141_h : mm141.holds EE := ent_run envOk (fun _ h => by cases h) _ _ mm141_ok mm141_run
-- decani/office.Fits, 6658 steps
noncomputable def mm181 : Ent :=
  ⟨24, [.agg ⟨[iP 6, iP 0, .slice (some ⟨6, 0, none⟩) 2 2, .slice none 0 0, .bool false, .slice none 0 0, .bool false, .slice none 0 0]⟩, .agg ⟨[iP 0, iP 3, iP 1]⟩], 7,
   gB ++ [(6, .cells true 0 [iP 2, iP 3, iP 2, iP 4, iP 4, iP 2])],
   [],
   .tuple ⟨[.bool false, iP 0]⟩⟩
theorem mm181_ok : mm181.okS EE.G = true := by kernel_rfl
theorem mm181_run : evT EE [] 1000000000 (.call mm181.f mm181.args) mm181.heap (keptK mm181) = some (.bool true) := by kernel_rfl
theorem mm181_h : mm181.holds EE := ent_run envOk (fun _ h => by cases h) _ _ mm181_ok mm181_run
-- decani/part.Notes, 4190 steps
noncomputable def mm211 : Ent :=
  ⟨25, [.agg ⟨[iP 1, .slice (some ⟨6, 0, none⟩) 2 2, iP 0, iP 254, iP 0, .slice none 0 0]⟩, iP 1, iP 0], 7,
   gB ++ [(6, .cells true 0 [iP 2, iP 2, iP 2, iP 3])],
   [.cells true 2 [iP 3]],
   .tuple ⟨[.slice (some ⟨7, 0, none⟩) 1 18446744073709551616, iP 0]⟩⟩
theorem mm211_ok : mm211.okS EE.G = true := by kernel_rfl
theorem mm211_run : evT EE [] 1000000000 (.call mm211.f mm211.args) mm211.heap (keptK mm211) = some (.bool true) := by kernel_rfl
theorem mm211_h : mm211.holds EE := ent_run envOk (fun _ h => by cases h) _ _ mm211_ok mm211_run
-- decani/part.Ways, 1935 steps
noncomputable def mm233 : Ent :=
  ⟨23, [.agg ⟨[iP 1, .slice (some ⟨6, 0, none⟩) 2 2, iP 0, iP 254, iP 0, .slice none 0 0]⟩], 7,
   gB ++ [(6, .cells true 0 [iP 2, iP 2, iP 2, iP 3])],
   [],
   .tuple ⟨[iP 1, iP 0]⟩⟩
theorem mm233_ok : mm233.okS EE.G = true := by kernel_rfl
theorem mm233_run : evT EE [] 1000000000 (.call mm233.f mm233.args) mm233.heap (keptK mm233) = some (.bool true) := by kernel_rfl
theorem mm233_h : mm233.holds EE := ent_run envOk (fun _ h => by cases h) _ _ mm233_ok mm233_run
end Go.Proofs.YtmjpnohpmfmdlaaGreatDoor
