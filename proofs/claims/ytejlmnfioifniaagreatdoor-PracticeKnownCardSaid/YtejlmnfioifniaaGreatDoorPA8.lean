/- Known calls, part 8: what single calls hand back, at small heaps, by the kernel's own run of the evaluator. No conditions. -/
import Derived.Test.YtejlmnfioifniaaGreatDoorPZC
set_option linter.all false
namespace Go.Proofs.YtejlmnfioifniaaGreatDoor
open Go.Ai
set_option maxRecDepth 1000000
-- decani/strain.Safe, 14231 steps
noncomputable def pa8 : Ent :=
  ⟨68, [.agg ⟨[.slice (some ⟨5, 0, none⟩) 3 3, iP 3, iP 3, iP 4, iP 5, iP 4, iP 4, .slice (some ⟨6, 0, none⟩) 4 18446744073709551616, .slice none 0 0, .slice none 0 0]⟩, .slice (some ⟨7, 0, none⟩) 1 18446744073709551616], 8,
   gC ++ [(5, .cells true 0 [iP 10, iP 10, iP 10, iP 11, iP 12, iP 12]),
    (6, .cells true 4 [iP 2, iP 0, iP 2, iP 0, iP 1, iP 1, iP 1, iP 0, iP 0, iP 0, iP 1, iP 0]),
    (7, .cells true 3 [iP 0, iP 0])],
   [],
   .tuple ⟨[.bool true, iP 0]⟩⟩
theorem pa8_ok : pa8.okS EE.G = true := by kernel_rfl
theorem pa8_run : evT EE zcT 1000000000 (.call pa8.f pa8.args) pa8.heap (keptK pa8) = some (.bool true) := by kernel_rfl
theorem pa8_h : pa8.holds EE := ent_run envOk zcT_holds _ _ pa8_ok pa8_run
-- decani/cold.Ill, 10709 steps
noncomputable def pa14 : Ent :=
  ⟨62, [.agg ⟨[iP 4, iP 5, iP 3, iP 0, iP 1, iP 2, iP 1, iP 1, .slice none 0 0, iP 2, .slice (some ⟨5, 0, none⟩) 1 1]⟩, iP 2, iP 0], 6,
   gC ++ [(5, .cells true 0 [iP 0, iP 1, .bool true])],
   [],
   .tuple ⟨[iP 0, iP 0]⟩⟩
theorem pa14_ok : pa14.okS EE.G = true := by kernel_rfl
theorem pa14_run : evT EE zcT 1000000000 (.call pa14.f pa14.args) pa14.heap (keptK pa14) = some (.bool true) := by kernel_rfl
theorem pa14_h : pa14.holds EE := ent_run envOk zcT_holds _ _ pa14_ok pa14_run
-- decani/strain.Safe, 9588 steps
noncomputable def pa22 : Ent :=
  ⟨68, [.agg ⟨[.slice (some ⟨5, 0, none⟩) 3 3, iP 3, iP 3, iP 4, iP 5, iP 4, iP 4, .slice (some ⟨6, 0, none⟩) 4 18446744073709551616, .slice none 0 0, .slice none 0 0]⟩, .slice (some ⟨7, 0, none⟩) 5 18446744073709551616], 8,
   gC ++ [(5, .cells true 0 [iP 2, iP 2, iP 10, iP 11, iP 12, iP 12]),
    (6, .cells true 4 [iP 1, iP 0, iP 1, iP 1, iP 1, iP 1, iP 1, iP 0, iP 0, iP 1, iP 1, iP 1]),
    (7, .cells true 3 [iP 1, iP 0, iP 1, iP 1, iP 3, iP 0, iP 3, iP 1, iP 3, iP 2])],
   [],
   .tuple ⟨[.bool false, iP 0]⟩⟩
theorem pa22_ok : pa22.okS EE.G = true := by kernel_rfl
theorem pa22_run : evT EE zcT 1000000000 (.call pa22.f pa22.args) pa22.heap (keptK pa22) = some (.bool true) := by kernel_rfl
theorem pa22_h : pa22.holds EE := ent_run envOk zcT_holds _ _ pa22_ok pa22_run
-- decani/cold.Ill, 8913 steps
noncomputable def pa37 : Ent :=
  ⟨62, [.agg ⟨[iP 4, iP 5, iP 3, iP 0, iP 1, iP 2, iP 1, iP 1, .slice none 0 0, iP 2, .slice (some ⟨5, 0, none⟩) 1 1]⟩, iP 3, iP 3], 6,
   gC ++ [(5, .cells true 0 [iP 0, iP 1, .bool true])],
   [],
   .tuple ⟨[iP 2, iP 0]⟩⟩
theorem pa37_ok : pa37.okS EE.G = true := by kernel_rfl
theorem pa37_run : evT EE zcT 1000000000 (.call pa37.f pa37.args) pa37.heap (keptK pa37) = some (.bool true) := by kernel_rfl
theorem pa37_h : pa37.holds EE := ent_run envOk zcT_holds _ _ pa37_ok pa37_run
-- decani/strain.Safe, 7841 steps
noncomputable def pa51 : Ent :=
  ⟨68, [.agg ⟨[.slice (some ⟨5, 0, none⟩) 3 3, iP 3, iP 3, iP 4, iP 5, iP 4, iP 4, .slice (some ⟨6, 0, none⟩) 4 18446744073709551616, .slice none 0 0, .slice none 0 0]⟩, .slice (some ⟨7, 0, none⟩) 2 18446744073709551616], 8,
   gC ++ [(5, .cells true 0 [iP 10, iP 10, iP 10, iP 11, iP 12, iP 12]),
    (6, .cells true 4 [iP 1, iP 0, iP 1, iP 1, iP 1, iP 2, iP 1, iP 0, iP 0, iP 0, iP 1, iP 0]),
    (7, .cells true 3 [iP 1, iP 0, iP 1, iP 1])],
   [],
   .tuple ⟨[.bool false, iP 0]⟩⟩
theorem pa51_ok : pa51.okS EE.G = true := by kernel_rfl
theorem pa51_run : evT EE zcT 1000000000 (.call pa51.f pa51.args) pa51.heap (keptK pa51) = some (.bool true) := by kernel_rfl
theorem pa51_h : pa51.holds EE := ent_run envOk zcT_holds _ _ pa51_ok pa51_run
-- decani/practice.Check, 2819 steps
noncomputable def pa57 : Ent :=
  ⟨16, [.agg ⟨[iP 4, iP 5, iP 3, iP 0, iP 1, iP 2, iP 1, iP 1, .slice none 0 0, iP 2, .slice none 0 0, .slice (some ⟨5, 0, none⟩) 3 3, iP 3, iP 3, iP 4, iP 5, iP 4, iP 4, .slice (some ⟨6, 0, none⟩) 4 4, .slice none 0 0, .slice none 0 0, .slice (some ⟨7, 0, none⟩) 3 3, .slice (some ⟨8, 0, none⟩) 2 2]⟩], 9,
   gC ++ [(5, .cells true 0 [iP 10, iP 10, iP 10, iP 11, iP 12, iP 12]),
    (6, .cells true 0 [iP 1, iP 0, iP 1, iP 0, iP 1, iP 1, iP 1, iP 0, iP 0, iP 0, iP 1, iP 0]),
    (7, .cells true 0 [iP 0, iP 2, iP 3]),
    (8, .cells true 0 [iP 0, iP 1, iP 1, iP 1, iP 3, iP 1])],
   [],
   iP 0⟩
theorem pa57_ok : pa57.okS EE.G = true := by kernel_rfl
theorem pa57_run : evT EE zcT 1000000000 (.call pa57.f pa57.args) pa57.heap (keptK pa57) = some (.bool true) := by kernel_rfl
theorem pa57_h : pa57.holds EE := ent_run envOk zcT_holds _ _ pa57_ok pa57_run
-- decani/cold.Right, 2343 steps
noncomputable def pa68 : Ent :=
  ⟨40, [.agg ⟨[iP 4, iP 5, iP 3, iP 0, iP 1, iP 2, iP 1, iP 1, .slice none 0 0, iP 2, .slice (some ⟨5, 0, none⟩) 1 1]⟩], 6,
   gC ++ [(5, .cells true 0 [iP 0, iP 1, .bool true])],
   [],
   .tuple ⟨[.bool true, iP 0]⟩⟩
theorem pa68_ok : pa68.okS EE.G = true := by kernel_rfl
theorem pa68_run : evT EE zcT 1000000000 (.call pa68.f pa68.args) pa68.heap (keptK pa68) = some (.bool true) := by kernel_rfl
theorem pa68_h : pa68.holds EE := ent_run envOk zcT_holds _ _ pa68_ok pa68_run
end Go.Proofs.YtejlmnfioifniaaGreatDoor
