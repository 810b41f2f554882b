/- Known calls, part 7: what single calls hand back, at small heaps, by the kernel's own run of the evaluator. No conditions. -/
import Derived.Test.YtejlmnfioifniaaGreatDoorPZC
set_option linter.all false
namespace Go.Proofs.YtejlmnfioifniaaGreatDoor
open Go.Ai
set_option maxRecDepth 1000000
-- decani/strain.Safe, 14231 steps
noncomputable def pa7 : Ent :=
  ⟨68, [.agg ⟨[.slice (some ⟨5, 0, none⟩) 3 3, iP 3, iP 3, iP 4, iP 5, iP 4, iP 4, .slice (some ⟨6, 0, none⟩) 4 18446744073709551616, .slice none 0 0, .slice none 0 0]⟩, .slice (some ⟨7, 0, none⟩) 1 18446744073709551616], 8,
   gC ++ [(5, .cells true 0 [iP 10, iP 10, iP 10, iP 11, iP 12, iP 12]),
    (6, .cells true 4 [iP 2, iP 0, iP 1, iP 0, iP 1, iP 1, iP 1, iP 0, iP 0, iP 0, iP 1, iP 0]),
    (7, .cells true 3 [iP 0, iP 0])],
   [],
   .tuple ⟨[.bool true, iP 0]⟩⟩
theorem pa7_ok : pa7.okS EE.G = true := by kernel_rfl
theorem pa7_run : evT EE zcT 1000000000 (.call pa7.f pa7.args) pa7.heap (keptK pa7) = some (.bool true) := by kernel_rfl
theorem pa7_h : pa7.holds EE := ent_run envOk zcT_holds _ _ pa7_ok pa7_run
-- decani/strain.Safe, 12797 steps
noncomputable def pa13 : Ent :=
  ⟨68, [.agg ⟨[.slice (some ⟨5, 0, none⟩) 3 3, iP 3, iP 3, iP 4, iP 5, iP 4, iP 4, .slice (some ⟨6, 0, none⟩) 4 4, .slice none 0 0, .slice none 0 0]⟩, .slice none 0 0], 7,
   gC ++ [(5, .cells true 0 [iP 2, iP 2, iP 10, iP 11, iP 12, iP 12]),
    (6, .cells true 0 [iP 1, iP 0, iP 1, iP 0, iP 1, iP 1, iP 1, iP 0, iP 0, iP 0, iP 1, iP 0])],
   [],
   .tuple ⟨[.bool false, iP 0]⟩⟩
theorem pa13_ok : pa13.okS EE.G = true := by kernel_rfl
theorem pa13_run : evT EE zcT 1000000000 (.call pa13.f pa13.args) pa13.heap (keptK pa13) = some (.bool true) := by kernel_rfl
theorem pa13_h : pa13.holds EE := ent_run envOk zcT_holds _ _ pa13_ok pa13_run
-- decani/strain.Safe, 8938 steps
noncomputable def pa30 : Ent :=
  ⟨68, [.agg ⟨[.slice (some ⟨5, 0, none⟩) 3 3, iP 3, iP 3, iP 4, iP 5, iP 4, iP 4, .slice (some ⟨6, 0, none⟩) 4 18446744073709551616, .slice none 0 0, .slice none 0 0]⟩, .slice (some ⟨7, 0, none⟩) 4 18446744073709551616], 8,
   gC ++ [(5, .cells true 0 [iP 10, iP 10, iP 10, iP 11, iP 12, iP 12]),
    (6, .cells true 4 [iP 2, iP 0, iP 1, iP 0, iP 1, iP 1, iP 2, iP 0, iP 1, iP 0, iP 1, iP 0]),
    (7, .cells true 3 [iP 0, iP 0, iP 2, iP 0, iP 2, iP 1, iP 2, iP 2])],
   [],
   .tuple ⟨[.bool false, iP 0]⟩⟩
theorem pa30_ok : pa30.okS EE.G = true := by kernel_rfl
theorem pa30_run : evT EE zcT 1000000000 (.call pa30.f pa30.args) pa30.heap (keptK pa30) = some (.bool true) := by kernel_rfl
theorem pa30_h : pa30.holds EE := ent_run envOk zcT_holds _ _ pa30_ok pa30_run
-- decani/cold.Ill, 8585 steps
noncomputable def pa41 : Ent :=
  ⟨62, [.agg ⟨[iP 4, iP 5, iP 3, iP 0, iP 1, iP 2, iP 1, iP 1, .slice none 0 0, iP 2, .slice none 0 0]⟩, iP 2, iP 1], 5,
   gC,
   [],
   .tuple ⟨[iP 1, iP 0]⟩⟩
theorem pa41_ok : pa41.okS EE.G = true := by kernel_rfl
theorem pa41_run : evT EE zcT 1000000000 (.call pa41.f pa41.args) pa41.heap (keptK pa41) = some (.bool true) := by kernel_rfl
theorem pa41_h : pa41.holds EE := ent_run envOk zcT_holds _ _ pa41_ok pa41_run
-- decani/cold.Right, 7226 steps
noncomputable def pa52 : Ent :=
  ⟨40, [.agg ⟨[iP 4, iP 5, iP 3, iP 0, iP 1, iP 2, iP 1, iP 1, .slice none 0 0, iP 2, .slice (some ⟨5, 0, none⟩) 2 2]⟩], 6,
   gC ++ [(5, .cells true 0 [iP 0, iP 1, .bool true, iP 2, iP 2, .bool true])],
   [],
   .tuple ⟨[.bool false, iP 0]⟩⟩
theorem pa52_ok : pa52.okS EE.G = true := by kernel_rfl
theorem pa52_run : evT EE zcT 1000000000 (.call pa52.f pa52.args) pa52.heap (keptK pa52) = some (.bool true) := by kernel_rfl
theorem pa52_h : pa52.holds EE := ent_run envOk zcT_holds _ _ pa52_ok pa52_run
-- decani/practice.Check, 2664 steps
noncomputable def pa63 : Ent :=
  ⟨16, [.agg ⟨[iP 4, iP 5, iP 3, iP 0, iP 1, iP 2, iP 1, iP 1, .slice none 0 0, iP 2, .slice none 0 0, .slice (some ⟨5, 0, none⟩) 3 3, iP 3, iP 3, iP 4, iP 5, iP 4, iP 4, .slice (some ⟨6, 0, none⟩) 4 4, .slice none 0 0, .slice none 0 0, .slice (some ⟨7, 0, none⟩) 3 3, .slice (some ⟨8, 0, none⟩) 2 2]⟩], 9,
   gC ++ [(5, .cells true 0 [iP 10, iP 10, iP 10, iP 11, iP 12, iP 12]),
    (6, .cells true 0 [iP 1, iP 0, iP 1, iP 0, iP 1, iP 1, iP 1, iP 0, iP 0, iP 0, iP 1, iP 0]),
    (7, .cells true 0 [iP 0, iP 2, iP 3]),
    (8, .cells true 0 [iP 0, iP 1, iP 4, iP 1, iP 3, iP 1])],
   [],
   iP 100⟩
theorem pa63_ok : pa63.okS EE.G = true := by kernel_rfl
theorem pa63_run : evT EE zcT 1000000000 (.call pa63.f pa63.args) pa63.heap (keptK pa63) = some (.bool true) := by kernel_rfl
theorem pa63_h : pa63.holds EE := ent_run envOk zcT_holds _ _ pa63_ok pa63_run
-- decani/practice.Check, 1123 steps
noncomputable def pa73 : Ent :=
  ⟨16, [.agg ⟨[iP 4, iP 5, iP 3, iP 0, iP 1, iP 2, iP 1, iP 1, .slice none 0 0, iP 2, .slice none 0 0, .slice (some ⟨5, 0, none⟩) 3 3, iP 7, iP 7, iP 4, iP 5, iP 4, iP 4, .slice (some ⟨6, 0, none⟩) 4 4, .slice none 0 0, .slice none 0 0, .slice (some ⟨7, 0, none⟩) 3 3, .slice (some ⟨8, 0, none⟩) 2 2]⟩], 9,
   gC ++ [(5, .cells true 0 [iP 10, iP 10, iP 10, iP 11, iP 12, iP 12]),
    (6, .cells true 0 [iP 1, iP 0, iP 1, iP 0, iP 1, iP 1, iP 1, iP 0, iP 0, iP 0, iP 1, iP 0]),
    (7, .cells true 0 [iP 0, iP 2, iP 3]),
    (8, .cells true 0 [iP 0, iP 1, iP 1, iP 1, iP 3, iP 1])],
   [],
   iP 100⟩
theorem pa73_ok : pa73.okS EE.G = true := by kernel_rfl
theorem pa73_run : evT EE zcT 1000000000 (.call pa73.f pa73.args) pa73.heap (keptK pa73) = some (.bool true) := by kernel_rfl
theorem pa73_h : pa73.holds EE := ent_run envOk zcT_holds _ _ pa73_ok pa73_run
end Go.Proofs.YtejlmnfioifniaaGreatDoor
