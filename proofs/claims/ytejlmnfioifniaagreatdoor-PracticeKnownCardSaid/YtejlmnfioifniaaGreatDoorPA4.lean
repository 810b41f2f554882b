/- Known calls, part 4: what single calls hand back, at small heaps, by the kernel's own run of the evaluator. No conditions. -/
import Derived.Test.YtejlmnfioifniaaGreatDoorPZC
set_option linter.all false
namespace Go.Proofs.YtejlmnfioifniaaGreatDoor
open Go.Ai
set_option maxRecDepth 1000000
-- decani/strain.Safe, 14650 steps
noncomputable def pa4 : Ent :=
  ⟨68, [.agg ⟨[.slice (some ⟨5, 0, none⟩) 3 3, iP 3, iP 3, iP 4, iP 5, iP 4, iP 4, .slice (some ⟨6, 0, none⟩) 4 18446744073709551616, .slice none 0 0, .slice none 0 0]⟩, .slice (some ⟨7, 0, none⟩) 2 18446744073709551616], 8,
   gC ++ [(5, .cells true 0 [iP 10, iP 10, iP 10, iP 11, iP 12, iP 12]),
    (6, .cells true 4 [iP 1, iP 0, iP 1, iP 0, iP 1, iP 1, iP 2, iP 0, iP 1, iP 0, iP 1, iP 0]),
    (7, .cells true 3 [iP 2, iP 0, iP 2, iP 1])],
   [],
   .tuple ⟨[.bool true, iP 0]⟩⟩
theorem pa4_ok : pa4.okS EE.G = true := by kernel_rfl
theorem pa4_run : evT EE zcT 1000000000 (.call pa4.f pa4.args) pa4.heap (keptK pa4) = some (.bool true) := by kernel_rfl
theorem pa4_h : pa4.holds EE := ent_run envOk zcT_holds _ _ pa4_ok pa4_run
-- decani/cold.Ill, 10709 steps
noncomputable def pa17 : Ent :=
  ⟨62, [.agg ⟨[iP 4, iP 5, iP 3, iP 0, iP 1, iP 2, iP 1, iP 1, .slice none 0 0, iP 2, .slice (some ⟨5, 0, none⟩) 1 1]⟩, iP 3, iP 1], 6,
   gC ++ [(5, .cells true 0 [iP 0, iP 1, .bool true])],
   [],
   .tuple ⟨[iP 0, iP 0]⟩⟩
theorem pa17_ok : pa17.okS EE.G = true := by kernel_rfl
theorem pa17_run : evT EE zcT 1000000000 (.call pa17.f pa17.args) pa17.heap (keptK pa17) = some (.bool true) := by kernel_rfl
theorem pa17_h : pa17.holds EE := ent_run envOk zcT_holds _ _ pa17_ok pa17_run
-- decani/strain.Safe, 9115 steps
noncomputable def pa28 : Ent :=
  ⟨68, [.agg ⟨[.slice (some ⟨5, 0, none⟩) 3 3, iP 3, iP 3, iP 4, iP 5, iP 4, iP 4, .slice (some ⟨6, 0, none⟩) 4 18446744073709551616, .slice none 0 0, .slice none 0 0]⟩, .slice (some ⟨7, 0, none⟩) 4 18446744073709551616], 8,
   gC ++ [(5, .cells true 0 [iP 10, iP 10, iP 10, iP 11, iP 12, iP 12]),
    (6, .cells true 4 [iP 1, iP 0, iP 1, iP 1, iP 1, iP 1, iP 1, iP 0, iP 0, iP 1, iP 1, iP 1]),
    (7, .cells true 3 [iP 1, iP 0, iP 3, iP 0, iP 3, iP 1, iP 3, iP 2])],
   [],
   .tuple ⟨[.bool false, iP 0]⟩⟩
theorem pa28_ok : pa28.okS EE.G = true := by kernel_rfl
theorem pa28_run : evT EE zcT 1000000000 (.call pa28.f pa28.args) pa28.heap (keptK pa28) = some (.bool true) := by kernel_rfl
theorem pa28_h : pa28.holds EE := ent_run envOk zcT_holds _ _ pa28_ok pa28_run
-- decani/cold.Ill, 8913 steps
noncomputable def pa36 : Ent :=
  ⟨62, [.agg ⟨[iP 4, iP 5, iP 3, iP 0, iP 1, iP 2, iP 1, iP 1, .slice none 0 0, iP 2, .slice (some ⟨5, 0, none⟩) 1 1]⟩, iP 2, iP 3], 6,
   gC ++ [(5, .cells true 0 [iP 0, iP 1, .bool true])],
   [],
   .tuple ⟨[iP 2, iP 0]⟩⟩
theorem pa36_ok : pa36.okS EE.G = true := by kernel_rfl
theorem pa36_run : evT EE zcT 1000000000 (.call pa36.f pa36.args) pa36.heap (keptK pa36) = some (.bool true) := by kernel_rfl
theorem pa36_h : pa36.holds EE := ent_run envOk zcT_holds _ _ pa36_ok pa36_run
-- decani/cold.Ill, 8458 steps
noncomputable def pa50 : Ent :=
  ⟨62, [.agg ⟨[iP 4, iP 5, iP 3, iP 0, iP 1, iP 2, iP 1, iP 1, .slice none 0 0, iP 2, .slice none 0 0]⟩, iP 3, iP 3], 5,
   gC,
   [],
   .tuple ⟨[iP 2, iP 0]⟩⟩
theorem pa50_ok : pa50.okS EE.G = true := by kernel_rfl
theorem pa50_run : evT EE zcT 1000000000 (.call pa50.f pa50.args) pa50.heap (keptK pa50) = some (.bool true) := by kernel_rfl
theorem pa50_h : pa50.holds EE := ent_run envOk zcT_holds _ _ pa50_ok pa50_run
-- decani/practice.Check, 2518 steps
noncomputable def pa66 : Ent :=
  ⟨16, [.agg ⟨[iP 4, iP 5, iP 3, iP 0, iP 1, iP 2, iP 1, iP 1, .slice none 0 0, iP 2, .slice none 0 0, .slice (some ⟨5, 0, none⟩) 3 3, iP 3, iP 3, iP 4, iP 5, iP 4, iP 4, .slice (some ⟨6, 0, none⟩) 4 4, .slice none 0 0, .slice none 0 0, .slice (some ⟨7, 0, none⟩) 3 3, .slice (some ⟨8, 0, none⟩) 4 4]⟩], 9,
   gC ++ [(5, .cells true 0 [iP 10, iP 10, iP 10, iP 11, iP 12, iP 12]),
    (6, .cells true 0 [iP 1, iP 0, iP 1, iP 0, iP 1, iP 1, iP 1, iP 0, iP 0, iP 0, iP 1, iP 0]),
    (7, .cells true 0 [iP 0, iP 2, iP 3]),
    (8, .cells true 0 [iP 0, iP 0, iP 0, iP 0, iP 0, iP 0, iP 0, iP 0, iP 0, iP 0, iP 0, iP 0])],
   [],
   iP 100⟩
theorem pa66_ok : pa66.okS EE.G = true := by kernel_rfl
theorem pa66_run : evT EE zcT 1000000000 (.call pa66.f pa66.args) pa66.heap (keptK pa66) = some (.bool true) := by kernel_rfl
theorem pa66_h : pa66.holds EE := ent_run envOk zcT_holds _ _ pa66_ok pa66_run
-- decani/cold.Right, 2091 steps
noncomputable def pa70 : Ent :=
  ⟨40, [.agg ⟨[iP 4, iP 5, iP 3, iP 0, iP 1, iP 2, iP 1, iP 1, .slice none 0 0, iP 2, .slice none 0 0]⟩], 5,
   gC,
   [],
   .tuple ⟨[.bool true, iP 0]⟩⟩
theorem pa70_ok : pa70.okS EE.G = true := by kernel_rfl
theorem pa70_run : evT EE zcT 1000000000 (.call pa70.f pa70.args) pa70.heap (keptK pa70) = some (.bool true) := by kernel_rfl
theorem pa70_h : pa70.holds EE := ent_run envOk zcT_holds _ _ pa70_ok pa70_run
end Go.Proofs.YtejlmnfioifniaaGreatDoor
