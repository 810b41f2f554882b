/- Known calls, part 9: what single calls hand back, at small heaps, by the kernel's own run of the evaluator. No conditions. -/
import Derived.Test.YtejlmnfioifniaaGreatDoorPZC
set_option linter.all false
namespace Go.Proofs.YtejlmnfioifniaaGreatDoor
open Go.Ai
set_option maxRecDepth 1000000
-- decani/strain.Safe, 14218 steps
noncomputable def pa9 : Ent :=
  ⟨68, [.agg ⟨[.slice (some ⟨5, 0, none⟩) 3 3, iP 3, iP 3, iP 4, iP 5, iP 4, iP 4, .slice (some ⟨6, 0, none⟩) 4 18446744073709551616, .slice none 0 0, .slice none 0 0]⟩, .slice (some ⟨7, 0, none⟩) 1 18446744073709551616], 8,
   gC ++ [(5, .cells true 0 [iP 10, iP 10, iP 10, iP 11, iP 12, iP 12]),
    (6, .cells true 4 [iP 1, iP 0, iP 1, iP 1, iP 1, iP 1, iP 1, iP 0, iP 0, iP 0, iP 1, iP 0]),
    (7, .cells true 3 [iP 1, iP 0])],
   [],
   .tuple ⟨[.bool true, iP 0]⟩⟩
theorem pa9_ok : pa9.okS EE.G = true := by kernel_rfl
theorem pa9_run : evT EE zcT 1000000000 (.call pa9.f pa9.args) pa9.heap (keptK pa9) = some (.bool true) := by kernel_rfl
theorem pa9_h : pa9.holds EE := ent_run envOk zcT_holds _ _ pa9_ok pa9_run
-- decani/strain.Safe, 13379 steps
noncomputable def pa12 : Ent :=
  ⟨68, [.agg ⟨[.slice (some ⟨5, 0, none⟩) 3 3, iP 3, iP 3, iP 4, iP 5, iP 4, iP 4, .slice (some ⟨6, 0, none⟩) 4 18446744073709551616, .slice none 0 0, .slice none 0 0]⟩, .slice (some ⟨7, 0, none⟩) 1 18446744073709551616], 8,
   gC ++ [(5, .cells true 0 [iP 2, iP 2, iP 10, iP 11, iP 12, iP 12]),
    (6, .cells true 4 [iP 2, iP 0, iP 1, iP 0, iP 1, iP 1, iP 1, iP 0, iP 0, iP 0, iP 1, iP 0]),
    (7, .cells true 3 [iP 0, iP 0])],
   [],
   .tuple ⟨[.bool false, iP 0]⟩⟩
theorem pa12_ok : pa12.okS EE.G = true := by kernel_rfl
theorem pa12_run : evT EE zcT 1000000000 (.call pa12.f pa12.args) pa12.heap (keptK pa12) = some (.bool true) := by kernel_rfl
theorem pa12_h : pa12.holds EE := ent_run envOk zcT_holds _ _ pa12_ok pa12_run
-- decani/cold.Ill, 8913 steps
noncomputable def pa32 : Ent :=
  ⟨62, [.agg ⟨[iP 4, iP 5, iP 3, iP 0, iP 1, iP 2, iP 1, iP 1, .slice none 0 0, iP 2, .slice (some ⟨5, 0, none⟩) 1 1]⟩, iP 0, iP 1], 6,
   gC ++ [(5, .cells true 0 [iP 0, iP 1, .bool true])],
   [],
   .tuple ⟨[iP 2, iP 0]⟩⟩
theorem pa32_ok : pa32.okS EE.G = true := by kernel_rfl
theorem pa32_run : evT EE zcT 1000000000 (.call pa32.f pa32.args) pa32.heap (keptK pa32) = some (.bool true) := by kernel_rfl
theorem pa32_h : pa32.holds EE := ent_run envOk zcT_holds _ _ pa32_ok pa32_run
-- decani/strain.Safe, 8492 steps
noncomputable def pa43 : Ent :=
  ⟨68, [.agg ⟨[.slice (some ⟨5, 0, none⟩) 3 3, iP 3, iP 3, iP 4, iP 5, iP 4, iP 4, .slice (some ⟨6, 0, none⟩) 4 18446744073709551616, .slice none 0 0, .slice none 0 0]⟩, .slice (some ⟨7, 0, none⟩) 3 18446744073709551616], 8,
   gC ++ [(5, .cells true 0 [iP 2, iP 2, iP 10, iP 11, iP 12, iP 12]),
    (6, .cells true 4 [iP 1, iP 0, iP 1, iP 0, iP 1, iP 1, iP 2, iP 0, iP 1, iP 0, iP 1, iP 0]),
    (7, .cells true 3 [iP 2, iP 0, iP 2, iP 1, iP 2, iP 2])],
   [],
   .tuple ⟨[.bool false, iP 0]⟩⟩
theorem pa43_ok : pa43.okS EE.G = true := by kernel_rfl
theorem pa43_run : evT EE zcT 1000000000 (.call pa43.f pa43.args) pa43.heap (keptK pa43) = some (.bool true) := by kernel_rfl
theorem pa43_h : pa43.holds EE := ent_run envOk zcT_holds _ _ pa43_ok pa43_run
-- decani/practice.Check, 3059 steps
noncomputable def pa54 : Ent :=
  ⟨16, [.agg ⟨[iP 4, iP 5, iP 3, iP 0, iP 1, iP 2, iP 1, iP 1, .slice none 0 0, iP 2, .slice (some ⟨5, 0, none⟩) 2 2, .slice (some ⟨6, 0, none⟩) 3 3, iP 3, iP 3, iP 4, iP 5, iP 4, iP 4, .slice (some ⟨7, 0, none⟩) 4 4, .slice none 0 0, .slice none 0 0, .slice (some ⟨8, 0, none⟩) 3 3, .slice (some ⟨9, 0, none⟩) 2 2]⟩], 10,
   gC ++ [(5, .cells true 0 [iP 0, iP 1, .bool true, iP 2, iP 2, .bool true]),
    (6, .cells true 0 [iP 10, iP 10, iP 10, iP 11, iP 12, iP 12]),
    (7, .cells true 0 [iP 1, iP 0, iP 1, iP 0, iP 1, iP 1, iP 1, iP 0, iP 0, iP 0, iP 1, iP 0]),
    (8, .cells true 0 [iP 0, iP 2, iP 3]),
    (9, .cells true 0 [iP 0, iP 1, iP 1, iP 1, iP 3, iP 1])],
   [],
   iP 0⟩
theorem pa54_ok : pa54.okS EE.G = true := by kernel_rfl
theorem pa54_run : evT EE zcT 1000000000 (.call pa54.f pa54.args) pa54.heap (keptK pa54) = some (.bool true) := by kernel_rfl
theorem pa54_h : pa54.holds EE := ent_run envOk zcT_holds _ _ pa54_ok pa54_run
-- decani/practice.Check, 3016 steps
noncomputable def pa55 : Ent :=
  ⟨16, [.agg ⟨[iP 4, iP 5, iP 3, iP 0, iP 1, iP 2, iP 1, iP 1, .slice none 0 0, iP 2, .slice none 0 0, .slice (some ⟨5, 0, none⟩) 3 3, iP 3, iP 3, iP 4, iP 5, iP 4, iP 4, .slice (some ⟨6, 0, none⟩) 4 4, .slice none 0 0, .slice (some ⟨7, 0, none⟩) 1 1, .slice (some ⟨8, 0, none⟩) 3 3, .slice (some ⟨9, 0, none⟩) 2 2]⟩], 10,
   gC ++ [(5, .cells true 0 [iP 10, iP 10, iP 10, iP 11, iP 12, iP 12]),
    (6, .cells true 0 [iP 1, iP 0, iP 1, iP 0, iP 1, iP 1, iP 1, iP 0, iP 0, iP 0, iP 1, iP 0]),
    (7, .cells true 0 [iP 0, iP 0, iP 30, iP 0]),
    (8, .cells true 0 [iP 0, iP 2, iP 3]),
    (9, .cells true 0 [iP 0, iP 1, iP 1, iP 1, iP 3, iP 1])],
   [],
   iP 0⟩
theorem pa55_ok : pa55.okS EE.G = true := by kernel_rfl
theorem pa55_run : evT EE zcT 1000000000 (.call pa55.f pa55.args) pa55.heap (keptK pa55) = some (.bool true) := by kernel_rfl
theorem pa55_h : pa55.holds EE := ent_run envOk zcT_holds _ _ pa55_ok pa55_run
-- decani/practice.Check, 2819 steps
noncomputable def pa58 : Ent :=
  ⟨16, [.agg ⟨[iP 4, iP 5, iP 3, iP 0, iP 1, iP 2, iP 1, iP 1, .slice none 0 0, iP 2, .slice none 0 0, .slice (some ⟨5, 0, none⟩) 3 3, iP 3, iP 3, iP 4, iP 5, iP 4, iP 4, .slice (some ⟨6, 0, none⟩) 4 4, .slice none 0 0, .slice none 0 0, .slice (some ⟨7, 0, none⟩) 3 3, .slice (some ⟨8, 0, none⟩) 2 2]⟩], 9,
   gC ++ [(5, .cells true 0 [iP 2, iP 2, iP 10, iP 11, iP 12, iP 12]),
    (6, .cells true 0 [iP 1, iP 0, iP 1, iP 0, iP 1, iP 1, iP 1, iP 0, iP 0, iP 0, iP 1, iP 0]),
    (7, .cells true 0 [iP 0, iP 2, iP 3]),
    (8, .cells true 0 [iP 0, iP 1, iP 1, iP 1, iP 3, iP 1])],
   [],
   iP 0⟩
theorem pa58_ok : pa58.okS EE.G = true := by kernel_rfl
theorem pa58_run : evT EE zcT 1000000000 (.call pa58.f pa58.args) pa58.heap (keptK pa58) = some (.bool true) := by kernel_rfl
theorem pa58_h : pa58.holds EE := ent_run envOk zcT_holds _ _ pa58_ok pa58_run
-- decani/practice.Check, 2299 steps
noncomputable def pa69 : Ent :=
  ⟨16, [.agg ⟨[iP 4, iP 5, iP 3, iP 0, iP 1, iP 2, iP 1, iP 1, .slice none 0 0, iP 2, .slice none 0 0, .slice (some ⟨5, 0, none⟩) 3 3, iP 3, iP 3, iP 4, iP 5, iP 4, iP 4, .slice (some ⟨6, 0, none⟩) 4 4, .slice none 0 0, .slice none 0 0, .slice (some ⟨7, 0, none⟩) 3 3, .slice (some ⟨8, 0, none⟩) 2 2]⟩], 9,
   gC ++ [(5, .cells true 0 [iP 10, iP 10, iP 10, iP 11, iP 12, iP 12]),
    (6, .cells true 0 [iP 1, iP 0, iP 1, iP 0, iP 1, iP 1, iP 1, iP 0, iP 0, iP 0, iP 1, iP 0]),
    (7, .cells true 0 [iP 0, iP 0, iP 3]),
    (8, .cells true 0 [iP 0, iP 1, iP 1, iP 1, iP 3, iP 1])],
   [],
   iP 100⟩
theorem pa69_ok : pa69.okS EE.G = true := by kernel_rfl
theorem pa69_run : evT EE zcT 1000000000 (.call pa69.f pa69.args) pa69.heap (keptK pa69) = some (.bool true) := by kernel_rfl
theorem pa69_h : pa69.holds EE := ent_run envOk zcT_holds _ _ pa69_ok pa69_run
end Go.Proofs.YtejlmnfioifniaaGreatDoor
