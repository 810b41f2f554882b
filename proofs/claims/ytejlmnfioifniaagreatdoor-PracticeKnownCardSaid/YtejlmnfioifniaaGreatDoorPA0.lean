/- Known calls, part 0: what single calls hand back, at small heaps, by the kernel's own run of the evaluator. No conditions. -/
import Derived.Test.YtejlmnfioifniaaGreatDoorPZC
set_option linter.all false
namespace Go.Proofs.YtejlmnfioifniaaGreatDoor
open Go.Ai
set_option maxRecDepth 1000000
-- decani/strain.Safe, 15086 steps
noncomputable def pa0 : Ent :=
  ⟨68, [.agg ⟨[.slice (some ⟨5, 0, none⟩) 3 3, iP 3, iP 3, iP 4, iP 5, iP 4, iP 4, .slice (some ⟨6, 0, none⟩) 4 18446744073709551616, .slice none 0 0, .slice none 0 0]⟩, .slice (some ⟨7, 0, none⟩) 3 18446744073709551616], 8,
   gC ++ [(5, .cells true 0 [iP 10, iP 10, iP 10, iP 11, iP 12, iP 12]),
    (6, .cells true 4 [iP 2, iP 0, iP 1, iP 0, iP 1, iP 1, iP 2, iP 0, iP 1, iP 0, iP 1, iP 0]),
    (7, .cells true 3 [iP 0, iP 0, iP 2, iP 0, iP 2, iP 1])],
   [],
   .tuple ⟨[.bool true, iP 0]⟩⟩
theorem pa0_ok : pa0.okS EE.G = true := by kernel_rfl
theorem pa0_run : evT EE zcT 1000000000 (.call pa0.f pa0.args) pa0.heap (keptK pa0) = some (.bool true) := by kernel_rfl
theorem pa0_h : pa0.holds EE := ent_run envOk zcT_holds _ _ pa0_ok pa0_run
-- decani/cold.Ill, 10119 steps
noncomputable def pa21 : Ent :=
  ⟨62, [.agg ⟨[iP 4, iP 5, iP 3, iP 0, iP 1, iP 2, iP 1, iP 1, .slice none 0 0, iP 2, .slice none 0 0]⟩, iP 3, iP 1], 5,
   gC,
   [],
   .tuple ⟨[iP 0, iP 0]⟩⟩
theorem pa21_ok : pa21.okS EE.G = true := by kernel_rfl
theorem pa21_run : evT EE zcT 1000000000 (.call pa21.f pa21.args) pa21.heap (keptK pa21) = some (.bool true) := by kernel_rfl
theorem pa21_h : pa21.holds EE := ent_run envOk zcT_holds _ _ pa21_ok pa21_run
-- decani/strain.Safe, 9411 steps
noncomputable def pa25 : Ent :=
  ⟨68, [.agg ⟨[.slice (some ⟨5, 0, none⟩) 3 3, iP 3, iP 3, iP 4, iP 5, iP 4, iP 4, .slice (some ⟨6, 0, none⟩) 4 18446744073709551616, .slice none 0 0, .slice none 0 0]⟩, .slice (some ⟨7, 0, none⟩) 5 18446744073709551616], 8,
   gC ++ [(5, .cells true 0 [iP 2, iP 2, iP 10, iP 11, iP 12, iP 12]),
    (6, .cells true 4 [iP 1, iP 0, iP 1, iP 1, iP 1, iP 1, iP 2, iP 0, iP 1, iP 0, iP 1, iP 0]),
    (7, .cells true 3 [iP 1, iP 0, iP 1, iP 1, iP 2, iP 0, iP 2, iP 1, iP 2, iP 2])],
   [],
   .tuple ⟨[.bool false, iP 0]⟩⟩
theorem pa25_ok : pa25.okS EE.G = true := by kernel_rfl
theorem pa25_run : evT EE zcT 1000000000 (.call pa25.f pa25.args) pa25.heap (keptK pa25) = some (.bool true) := by kernel_rfl
theorem pa25_h : pa25.holds EE := ent_run envOk zcT_holds _ _ pa25_ok pa25_run
-- decani/strain.Safe, 8669 steps
noncomputable def pa39 : Ent :=
  ⟨68, [.agg ⟨[.slice (some ⟨5, 0, none⟩) 3 3, iP 3, iP 3, iP 4, iP 5, iP 4, iP 4, .slice (some ⟨6, 0, none⟩) 4 18446744073709551616, .slice none 0 0, .slice none 0 0]⟩, .slice (some ⟨7, 0, none⟩) 3 18446744073709551616], 8,
   gC ++ [(5, .cells true 0 [iP 10, iP 10, iP 10, iP 11, iP 12, iP 12]),
    (6, .cells true 4 [iP 1, iP 0, iP 1, iP 0, iP 1, iP 1, iP 1, iP 0, iP 0, iP 1, iP 1, iP 1]),
    (7, .cells true 3 [iP 3, iP 0, iP 3, iP 1, iP 3, iP 2])],
   [],
   .tuple ⟨[.bool false, iP 0]⟩⟩
theorem pa39_ok : pa39.okS EE.G = true := by kernel_rfl
theorem pa39_run : evT EE zcT 1000000000 (.call pa39.f pa39.args) pa39.heap (keptK pa39) = some (.bool true) := by kernel_rfl
theorem pa39_h : pa39.holds EE := ent_run envOk zcT_holds _ _ pa39_ok pa39_run
-- decani/cold.Ill, 8458 steps
noncomputable def pa46 : Ent :=
  ⟨62, [.agg ⟨[iP 4, iP 5, iP 3, iP 0, iP 1, iP 2, iP 1, iP 1, .slice none 0 0, iP 2, .slice none 0 0]⟩, iP 0, iP 2], 5,
   gC,
   [],
   .tuple ⟨[iP 2, iP 0]⟩⟩
theorem pa46_ok : pa46.okS EE.G = true := by kernel_rfl
theorem pa46_run : evT EE zcT 1000000000 (.call pa46.f pa46.args) pa46.heap (keptK pa46) = some (.bool true) := by kernel_rfl
theorem pa46_h : pa46.holds EE := ent_run envOk zcT_holds _ _ pa46_ok pa46_run
-- decani/practice.Check, 2751 steps
noncomputable def pa61 : Ent :=
  ⟨16, [.agg ⟨[iP 4, iP 5, iP 3, iP 0, iP 1, iP 2, iP 1, iP 1, .slice none 0 0, iP 2, .slice none 0 0, .slice (some ⟨5, 0, none⟩) 3 3, iP 3, iP 3, iP 4, iP 5, iP 4, iP 4, .slice (some ⟨6, 0, none⟩) 4 4, .slice none 0 0, .slice none 0 0, .slice (some ⟨7, 0, none⟩) 3 3, .slice (some ⟨8, 0, none⟩) 2 2]⟩], 9,
   gC ++ [(5, .cells true 0 [iP 10, iP 10, iP 10, iP 11, iP 12, iP 12]),
    (6, .cells true 0 [iP 1, iP 0, iP 1, iP 0, iP 1, iP 1, iP 1, iP 0, iP 0, iP 0, iP 1, iP 0]),
    (7, .cells true 0 [iP 0, iP 2, iP 3]),
    (8, .cells true 0 [iP 0, iP 1, iP 1, iP 4, iP 3, iP 1])],
   [],
   iP 100⟩
theorem pa61_ok : pa61.okS EE.G = true := by kernel_rfl
theorem pa61_run : evT EE zcT 1000000000 (.call pa61.f pa61.args) pa61.heap (keptK pa61) = some (.bool true) := by kernel_rfl
theorem pa61_h : pa61.holds EE := ent_run envOk zcT_holds _ _ pa61_ok pa61_run
-- decani/practice.Check, 222 steps
noncomputable def pa74 : Ent :=
  ⟨16, [.agg ⟨[iP 4, iP 5, iP 3, iP 0, iP 1, iP 2, iP 1, iP 1, .slice none 0 0, iP 4, .slice none 0 0, .slice (some ⟨5, 0, none⟩) 3 3, iP 3, iP 3, iP 4, iP 5, iP 4, iP 4, .slice (some ⟨6, 0, none⟩) 4 4, .slice none 0 0, .slice none 0 0, .slice (some ⟨7, 0, none⟩) 3 3, .slice (some ⟨8, 0, none⟩) 2 2]⟩], 9,
   gC ++ [(5, .cells true 0 [iP 10, iP 10, iP 10, iP 11, iP 12, iP 12]),
    (6, .cells true 0 [iP 1, iP 0, iP 1, iP 0, iP 1, iP 1, iP 1, iP 0, iP 0, iP 0, iP 1, iP 0]),
    (7, .cells true 0 [iP 0, iP 2, iP 3]),
    (8, .cells true 0 [iP 0, iP 1, iP 1, iP 1, iP 3, iP 1])],
   [],
   iP 100⟩
theorem pa74_ok : pa74.okS EE.G = true := by kernel_rfl
theorem pa74_run : evT EE zcT 1000000000 (.call pa74.f pa74.args) pa74.heap (keptK pa74) = some (.bool true) := by kernel_rfl
theorem pa74_h : pa74.holds EE := ent_run envOk zcT_holds _ _ pa74_ok pa74_run
end Go.Proofs.YtejlmnfioifniaaGreatDoor
