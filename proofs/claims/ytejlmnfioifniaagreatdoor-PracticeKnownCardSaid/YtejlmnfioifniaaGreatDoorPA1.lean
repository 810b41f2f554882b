/- Known calls, part 1: what single calls hand back, at small heaps, by the kernel's own run of the evaluator. No conditions. -/
import Derived.Test.YtejlmnfioifniaaGreatDoorPZC
set_option linter.all false
namespace Go.Proofs.YtejlmnfioifniaaGreatDoor
open Go.Ai
set_option maxRecDepth 1000000
-- decani/strain.Safe, 15081 steps
noncomputable def pa1 : Ent :=
  ⟨68, [.agg ⟨[.slice (some ⟨5, 0, none⟩) 3 3, iP 3, iP 3, iP 4, iP 5, iP 4, iP 4, .slice (some ⟨6, 0, none⟩) 4 18446744073709551616, .slice none 0 0, .slice none 0 0]⟩, .slice (some ⟨7, 0, none⟩) 3 18446744073709551616], 8,
   gC ++ [(5, .cells true 0 [iP 10, iP 10, iP 10, iP 11, iP 12, iP 12]),
    (6, .cells true 4 [iP 2, iP 0, iP 1, iP 1, iP 1, iP 1, iP 1, iP 0, iP 0, iP 0, iP 1, iP 0]),
    (7, .cells true 3 [iP 0, iP 0, iP 1, iP 0, iP 1, iP 1])],
   [],
   .tuple ⟨[.bool true, iP 0]⟩⟩
theorem pa1_ok : pa1.okS EE.G = true := by kernel_rfl
theorem pa1_run : evT EE zcT 1000000000 (.call pa1.f pa1.args) pa1.heap (keptK pa1) = some (.bool true) := by kernel_rfl
theorem pa1_h : pa1.holds EE := ent_run envOk zcT_holds _ _ pa1_ok pa1_run
-- decani/cold.Ill, 10119 steps
noncomputable def pa20 : Ent :=
  ⟨62, [.agg ⟨[iP 4, iP 5, iP 3, iP 0, iP 1, iP 2, iP 1, iP 1, .slice none 0 0, iP 2, .slice none 0 0]⟩, iP 3, iP 0], 5,
   gC,
   [],
   .tuple ⟨[iP 0, iP 0]⟩⟩
theorem pa20_ok : pa20.okS EE.G = true := by kernel_rfl
theorem pa20_run : evT EE zcT 1000000000 (.call pa20.f pa20.args) pa20.heap (keptK pa20) = some (.bool true) := by kernel_rfl
theorem pa20_h : pa20.holds EE := ent_run envOk zcT_holds _ _ pa20_ok pa20_run
-- decani/strain.Safe, 9411 steps
noncomputable def pa24 : Ent :=
  ⟨68, [.agg ⟨[.slice (some ⟨5, 0, none⟩) 3 3, iP 3, iP 3, iP 4, iP 5, iP 4, iP 4, .slice (some ⟨6, 0, none⟩) 4 18446744073709551616, .slice none 0 0, .slice none 0 0]⟩, .slice (some ⟨7, 0, none⟩) 5 18446744073709551616], 8,
   gC ++ [(5, .cells true 0 [iP 10, iP 10, iP 10, iP 11, iP 12, iP 12]),
    (6, .cells true 4 [iP 1, iP 0, iP 1, iP 1, iP 1, iP 1, iP 2, iP 0, iP 1, iP 0, iP 1, iP 0]),
    (7, .cells true 3 [iP 1, iP 0, iP 1, iP 1, iP 2, iP 0, iP 2, iP 1, iP 2, iP 2])],
   [],
   .tuple ⟨[.bool false, iP 0]⟩⟩
theorem pa24_ok : pa24.okS EE.G = true := by kernel_rfl
theorem pa24_run : evT EE zcT 1000000000 (.call pa24.f pa24.args) pa24.heap (keptK pa24) = some (.bool true) := by kernel_rfl
theorem pa24_h : pa24.holds EE := ent_run envOk zcT_holds _ _ pa24_ok pa24_run
-- decani/strain.Safe, 8669 steps
noncomputable def pa38 : Ent :=
  ⟨68, [.agg ⟨[.slice (some ⟨5, 0, none⟩) 3 3, iP 3, iP 3, iP 4, iP 5, iP 4, iP 4, .slice (some ⟨6, 0, none⟩) 4 18446744073709551616, .slice none 0 0, .slice none 0 0]⟩, .slice (some ⟨7, 0, none⟩) 3 18446744073709551616], 8,
   gC ++ [(5, .cells true 0 [iP 2, iP 2, iP 10, iP 11, iP 12, iP 12]),
    (6, .cells true 4 [iP 1, iP 0, iP 1, iP 0, iP 1, iP 1, iP 1, iP 0, iP 0, iP 1, iP 1, iP 1]),
    (7, .cells true 3 [iP 3, iP 0, iP 3, iP 1, iP 3, iP 2])],
   [],
   .tuple ⟨[.bool false, iP 0]⟩⟩
theorem pa38_ok : pa38.okS EE.G = true := by kernel_rfl
theorem pa38_run : evT EE zcT 1000000000 (.call pa38.f pa38.args) pa38.heap (keptK pa38) = some (.bool true) := by kernel_rfl
theorem pa38_h : pa38.holds EE := ent_run envOk zcT_holds _ _ pa38_ok pa38_run
-- decani/cold.Ill, 8458 steps
noncomputable def pa45 : Ent :=
  ⟨62, [.agg ⟨[iP 4, iP 5, iP 3, iP 0, iP 1, iP 2, iP 1, iP 1, .slice none 0 0, iP 2, .slice none 0 0]⟩, iP 0, iP 1], 5,
   gC,
   [],
   .tuple ⟨[iP 2, iP 0]⟩⟩
theorem pa45_ok : pa45.okS EE.G = true := by kernel_rfl
theorem pa45_run : evT EE zcT 1000000000 (.call pa45.f pa45.args) pa45.heap (keptK pa45) = some (.bool true) := by kernel_rfl
theorem pa45_h : pa45.holds EE := ent_run envOk zcT_holds _ _ pa45_ok pa45_run
-- decani/practice.Check, 2819 steps
noncomputable def pa60 : Ent :=
  ⟨16, [.agg ⟨[iP 4, iP 5, iP 3, iP 0, iP 1, iP 2, iP 1, iP 1, .slice none 0 0, iP 2, .slice none 0 0, .slice (some ⟨5, 0, none⟩) 3 3, iP 3, iP 3, iP 4, iP 5, iP 4, iP 4, .slice (some ⟨6, 0, none⟩) 4 4, .slice none 0 0, .slice none 0 0, .slice (some ⟨7, 0, none⟩) 3 3, .slice (some ⟨8, 0, none⟩) 2 2]⟩], 9,
   gC ++ [(5, .cells true 0 [iP 10, iP 10, iP 10, iP 11, iP 12, iP 12]),
    (6, .cells true 0 [iP 1, iP 0, iP 1, iP 0, iP 1, iP 1, iP 1, iP 0, iP 0, iP 0, iP 1, iP 0]),
    (7, .cells true 0 [iP 0, iP 2, iP 3]),
    (8, .cells true 0 [iP 0, iP 1, iP 1, iP 2, iP 3, iP 1])],
   [],
   iP 0⟩
theorem pa60_ok : pa60.okS EE.G = true := by kernel_rfl
theorem pa60_run : evT EE zcT 1000000000 (.call pa60.f pa60.args) pa60.heap (keptK pa60) = some (.bool true) := by kernel_rfl
theorem pa60_h : pa60.holds EE := ent_run envOk zcT_holds _ _ pa60_ok pa60_run
end Go.Proofs.YtejlmnfioifniaaGreatDoor
