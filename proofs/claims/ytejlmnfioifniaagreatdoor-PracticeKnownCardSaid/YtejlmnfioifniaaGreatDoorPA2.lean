/- Known calls, part 2: what single calls hand back, at small heaps, by the kernel's own run of the evaluator. No conditions. -/
import Derived.Test.YtejlmnfioifniaaGreatDoorPZC
set_option linter.all false
namespace Go.Proofs.YtejlmnfioifniaaGreatDoor
open Go.Ai
set_option maxRecDepth 1000000
-- decani/strain.Safe, 15073 steps
noncomputable def pa2 : Ent :=
  ⟨68, [.agg ⟨[.slice (some ⟨5, 0, none⟩) 3 3, iP 3, iP 3, iP 4, iP 5, iP 4, iP 4, .slice (some ⟨6, 0, none⟩) 4 18446744073709551616, .slice none 0 0, .slice none 0 0]⟩, .slice (some ⟨7, 0, none⟩) 3 18446744073709551616], 8,
   gC ++ [(5, .cells true 0 [iP 10, iP 10, iP 10, iP 11, iP 12, iP 12]),
    (6, .cells true 4 [iP 1, iP 0, iP 1, iP 1, iP 1, iP 1, iP 2, iP 0, iP 1, iP 0, iP 1, iP 0]),
    (7, .cells true 3 [iP 1, iP 0, iP 2, iP 0, iP 2, iP 1])],
   [],
   .tuple ⟨[.bool true, iP 0]⟩⟩
theorem pa2_ok : pa2.okS EE.G = true := by kernel_rfl
theorem pa2_run : evT EE zcT 1000000000 (.call pa2.f pa2.args) pa2.heap (keptK pa2) = some (.bool true) := by kernel_rfl
theorem pa2_h : pa2.holds EE := ent_run envOk zcT_holds _ _ pa2_ok pa2_run
-- decani/cold.Ill, 10119 steps
noncomputable def pa19 : Ent :=
  ⟨62, [.agg ⟨[iP 4, iP 5, iP 3, iP 0, iP 1, iP 2, iP 1, iP 1, .slice none 0 0, iP 2, .slice none 0 0]⟩, iP 2, iP 0], 5,
   gC,
   [],
   .tuple ⟨[iP 0, iP 0]⟩⟩
theorem pa19_ok : pa19.okS EE.G = true := by kernel_rfl
theorem pa19_run : evT EE zcT 1000000000 (.call pa19.f pa19.args) pa19.heap (keptK pa19) = some (.bool true) := by kernel_rfl
theorem pa19_h : pa19.holds EE := ent_run envOk zcT_holds _ _ pa19_ok pa19_run
-- decani/strain.Safe, 9588 steps
noncomputable def pa23 : Ent :=
  ⟨68, [.agg ⟨[.slice (some ⟨5, 0, none⟩) 3 3, iP 3, iP 3, iP 4, iP 5, iP 4, iP 4, .slice (some ⟨6, 0, none⟩) 4 18446744073709551616, .slice none 0 0, .slice none 0 0]⟩, .slice (some ⟨7, 0, none⟩) 5 18446744073709551616], 8,
   gC ++ [(5, .cells true 0 [iP 10, iP 10, iP 10, iP 11, iP 12, iP 12]),
    (6, .cells true 4 [iP 1, iP 0, iP 1, iP 1, iP 1, iP 1, iP 1, iP 0, iP 0, iP 1, iP 1, iP 1]),
    (7, .cells true 3 [iP 1, iP 0, iP 1, iP 1, iP 3, iP 0, iP 3, iP 1, iP 3, iP 2])],
   [],
   .tuple ⟨[.bool false, iP 0]⟩⟩
theorem pa23_ok : pa23.okS EE.G = true := by kernel_rfl
theorem pa23_run : evT EE zcT 1000000000 (.call pa23.f pa23.args) pa23.heap (keptK pa23) = some (.bool true) := by kernel_rfl
theorem pa23_h : pa23.holds EE := ent_run envOk zcT_holds _ _ pa23_ok pa23_run
-- decani/cold.Ill, 8587 steps
noncomputable def pa40 : Ent :=
  ⟨62, [.agg ⟨[iP 4, iP 5, iP 3, iP 0, iP 1, iP 2, iP 1, iP 1, .slice none 0 0, iP 2, .slice none 0 0]⟩, iP 0, iP 0], 5,
   gC,
   [],
   .tuple ⟨[iP 1, iP 0]⟩⟩
theorem pa40_ok : pa40.okS EE.G = true := by kernel_rfl
theorem pa40_run : evT EE zcT 1000000000 (.call pa40.f pa40.args) pa40.heap (keptK pa40) = some (.bool true) := by kernel_rfl
theorem pa40_h : pa40.holds EE := ent_run envOk zcT_holds _ _ pa40_ok pa40_run
-- decani/cold.Ill, 8458 steps
noncomputable def pa48 : Ent :=
  ⟨62, [.agg ⟨[iP 4, iP 5, iP 3, iP 0, iP 1, iP 2, iP 1, iP 1, .slice none 0 0, iP 2, .slice none 0 0]⟩, iP 2, iP 2], 5,
   gC,
   [],
   .tuple ⟨[iP 2, iP 0]⟩⟩
theorem pa48_ok : pa48.okS EE.G = true := by kernel_rfl
theorem pa48_run : evT EE zcT 1000000000 (.call pa48.f pa48.args) pa48.heap (keptK pa48) = some (.bool true) := by kernel_rfl
theorem pa48_h : pa48.holds EE := ent_run envOk zcT_holds _ _ pa48_ok pa48_run
-- decani/strain.Right, 2567 steps
noncomputable def pa64 : Ent :=
  ⟨41, [.agg ⟨[.slice (some ⟨5, 0, none⟩) 3 3, iP 3, iP 3, iP 4, iP 5, iP 4, iP 4, .slice (some ⟨6, 0, none⟩) 4 4, .slice none 0 0, .slice none 0 0]⟩], 7,
   gC ++ [(5, .cells true 0 [iP 10, iP 10, iP 10, iP 11, iP 12, iP 12]),
    (6, .cells true 0 [iP 1, iP 0, iP 1, iP 0, iP 1, iP 1, iP 1, iP 0, iP 0, iP 0, iP 1, iP 0])],
   [],
   .tuple ⟨[.bool true, iP 0]⟩⟩
theorem pa64_ok : pa64.okS EE.G = true := by kernel_rfl
theorem pa64_run : evT EE zcT 1000000000 (.call pa64.f pa64.args) pa64.heap (keptK pa64) = some (.bool true) := by kernel_rfl
theorem pa64_h : pa64.holds EE := ent_run envOk zcT_holds _ _ pa64_ok pa64_run
-- decani/practice.Check, 2048 steps
noncomputable def pa71 : Ent :=
  ⟨16, [.agg ⟨[iP 4, iP 5, iP 3, iP 0, iP 1, iP 2, iP 1, iP 1, .slice none 0 0, iP 2, .slice none 0 0, .slice (some ⟨5, 0, none⟩) 3 3, iP 3, iP 3, iP 4, iP 5, iP 4, iP 4, .slice (some ⟨6, 0, none⟩) 4 4, .slice none 0 0, .slice none 0 0, .slice (some ⟨7, 0, none⟩) 2 2, .slice (some ⟨8, 0, none⟩) 2 2]⟩], 9,
   gC ++ [(5, .cells true 0 [iP 10, iP 10, iP 10, iP 11, iP 12, iP 12]),
    (6, .cells true 0 [iP 1, iP 0, iP 1, iP 0, iP 1, iP 1, iP 1, iP 0, iP 0, iP 0, iP 1, iP 0]),
    (7, .cells true 0 [iP 0, iP 2]),
    (8, .cells true 0 [iP 0, iP 1, iP 1, iP 1, iP 3, iP 1])],
   [],
   iP 100⟩
theorem pa71_ok : pa71.okS EE.G = true := by kernel_rfl
theorem pa71_run : evT EE zcT 1000000000 (.call pa71.f pa71.args) pa71.heap (keptK pa71) = some (.bool true) := by kernel_rfl
theorem pa71_h : pa71.holds EE := ent_run envOk zcT_holds _ _ pa71_ok pa71_run
end Go.Proofs.YtejlmnfioifniaaGreatDoor
