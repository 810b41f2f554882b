/- Known calls, part 6: what single calls hand back, at small heaps, by the kernel's own run of the evaluator. No conditions. -/
import Derived.Test.YtejlmnfioifniaaGreatDoorPZC
set_option linter.all false
namespace Go.Proofs.YtejlmnfioifniaaGreatDoor
open Go.Ai
set_option maxRecDepth 1000000
-- decani/strain.Safe, 14580 steps
noncomputable def pa6 : Ent :=
  ⟨68, [.agg ⟨[.slice (some ⟨5, 0, none⟩) 3 3, iP 3, iP 3, iP 4, iP 5, iP 4, iP 4, .slice (some ⟨6, 0, none⟩) 4 18446744073709551616, .slice none 0 0, .slice none 0 0]⟩, .slice (some ⟨7, 0, none⟩) 3 18446744073709551616], 8,
   gC ++ [(5, .cells true 0 [iP 2, iP 2, iP 10, iP 11, iP 12, iP 12]),
    (6, .cells true 4 [iP 2, iP 0, iP 1, iP 1, iP 1, iP 1, iP 1, iP 0, iP 0, iP 0, iP 1, iP 0]),
    (7, .cells true 3 [iP 0, iP 0, iP 1, iP 0, iP 1, iP 1])],
   [],
   .tuple ⟨[.bool false, iP 0]⟩⟩
theorem pa6_ok : pa6.okS EE.G = true := by kernel_rfl
theorem pa6_run : evT EE zcT 1000000000 (.call pa6.f pa6.args) pa6.heap (keptK pa6) = some (.bool true) := by kernel_rfl
theorem pa6_h : pa6.holds EE := ent_run envOk zcT_holds _ _ pa6_ok pa6_run
-- decani/cold.Ill, 10709 steps
noncomputable def pa15 : Ent :=
  ⟨62, [.agg ⟨[iP 4, iP 5, iP 3, iP 0, iP 1, iP 2, iP 1, iP 1, .slice none 0 0, iP 2, .slice (some ⟨5, 0, none⟩) 1 1]⟩, iP 2, iP 1], 6,
   gC ++ [(5, .cells true 0 [iP 0, iP 1, .bool true])],
   [],
   .tuple ⟨[iP 0, iP 0]⟩⟩
theorem pa15_ok : pa15.okS EE.G = true := by kernel_rfl
theorem pa15_run : evT EE zcT 1000000000 (.call pa15.f pa15.args) pa15.heap (keptK pa15) = some (.bool true) := by kernel_rfl
theorem pa15_h : pa15.holds EE := ent_run envOk zcT_holds _ _ pa15_ok pa15_run
-- decani/strain.Safe, 9115 steps
noncomputable def pa26 : Ent :=
  ⟨68, [.agg ⟨[.slice (some ⟨5, 0, none⟩) 3 3, iP 3, iP 3, iP 4, iP 5, iP 4, iP 4, .slice (some ⟨6, 0, none⟩) 4 18446744073709551616, .slice none 0 0, .slice none 0 0]⟩, .slice (some ⟨7, 0, none⟩) 4 18446744073709551616], 8,
   gC ++ [(5, .cells true 0 [iP 2, iP 2, iP 10, iP 11, iP 12, iP 12]),
    (6, .cells true 4 [iP 2, iP 0, iP 1, iP 0, iP 1, iP 1, iP 1, iP 0, iP 0, iP 1, iP 1, iP 1]),
    (7, .cells true 3 [iP 0, iP 0, iP 3, iP 0, iP 3, iP 1, iP 3, iP 2])],
   [],
   .tuple ⟨[.bool false, iP 0]⟩⟩
theorem pa26_ok : pa26.okS EE.G = true := by kernel_rfl
theorem pa26_run : evT EE zcT 1000000000 (.call pa26.f pa26.args) pa26.heap (keptK pa26) = some (.bool true) := by kernel_rfl
theorem pa26_h : pa26.holds EE := ent_run envOk zcT_holds _ _ pa26_ok pa26_run
-- decani/cold.Ill, 8913 steps
noncomputable def pa34 : Ent :=
  ⟨62, [.agg ⟨[iP 4, iP 5, iP 3, iP 0, iP 1, iP 2, iP 1, iP 1, .slice none 0 0, iP 2, .slice (some ⟨5, 0, none⟩) 1 1]⟩, iP 0, iP 3], 6,
   gC ++ [(5, .cells true 0 [iP 0, iP 1, .bool true])],
   [],
   .tuple ⟨[iP 2, iP 0]⟩⟩
theorem pa34_ok : pa34.okS EE.G = true := by kernel_rfl
theorem pa34_run : evT EE zcT 1000000000 (.call pa34.f pa34.args) pa34.heap (keptK pa34) = some (.bool true) := by kernel_rfl
theorem pa34_h : pa34.holds EE := ent_run envOk zcT_holds _ _ pa34_ok pa34_run
-- decani/cold.Ill, 8458 steps
noncomputable def pa47 : Ent :=
  ⟨62, [.agg ⟨[iP 4, iP 5, iP 3, iP 0, iP 1, iP 2, iP 1, iP 1, .slice none 0 0, iP 2, .slice none 0 0]⟩, iP 0, iP 3], 5,
   gC,
   [],
   .tuple ⟨[iP 2, iP 0]⟩⟩
theorem pa47_ok : pa47.okS EE.G = true := by kernel_rfl
theorem pa47_run : evT EE zcT 1000000000 (.call pa47.f pa47.args) pa47.heap (keptK pa47) = some (.bool true) := by kernel_rfl
theorem pa47_h : pa47.holds EE := ent_run envOk zcT_holds _ _ pa47_ok pa47_run
-- decani/practice.Check, 2751 steps
noncomputable def pa62 : Ent :=
  ⟨16, [.agg ⟨[iP 4, iP 5, iP 3, iP 0, iP 1, iP 2, iP 1, iP 1, .slice none 0 0, iP 2, .slice none 0 0, .slice (some ⟨5, 0, none⟩) 3 3, iP 3, iP 3, iP 4, iP 5, iP 4, iP 4, .slice (some ⟨6, 0, none⟩) 4 4, .slice none 0 0, .slice none 0 0, .slice (some ⟨7, 0, none⟩) 3 3, .slice (some ⟨8, 0, none⟩) 2 2]⟩], 9,
   gC ++ [(5, .cells true 0 [iP 10, iP 10, iP 10, iP 11, iP 12, iP 12]),
    (6, .cells true 0 [iP 1, iP 0, iP 1, iP 0, iP 1, iP 1, iP 1, iP 0, iP 0, iP 0, iP 1, iP 0]),
    (7, .cells true 0 [iP 0, iP 2, iP 3]),
    (8, .cells true 0 [iP 0, iP 1, iP 1, iN 0, iP 3, iP 1])],
   [],
   iP 100⟩
theorem pa62_ok : pa62.okS EE.G = true := by kernel_rfl
theorem pa62_run : evT EE zcT 1000000000 (.call pa62.f pa62.args) pa62.heap (keptK pa62) = some (.bool true) := by kernel_rfl
theorem pa62_h : pa62.holds EE := ent_run envOk zcT_holds _ _ pa62_ok pa62_run
end Go.Proofs.YtejlmnfioifniaaGreatDoor
