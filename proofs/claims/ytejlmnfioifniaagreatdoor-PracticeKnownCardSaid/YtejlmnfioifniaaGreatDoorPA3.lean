/- Known calls, part 3: what single calls hand back, at small heaps, by the kernel's own run of the evaluator. No conditions. -/
import Derived.Test.YtejlmnfioifniaaGreatDoorPZC
set_option linter.all false
namespace Go.Proofs.YtejlmnfioifniaaGreatDoor
open Go.Ai
set_option maxRecDepth 1000000
-- decani/strain.Safe, 14651 steps
noncomputable def pa3 : Ent :=
  ⟨68, [.agg ⟨[.slice (some ⟨5, 0, none⟩) 3 3, iP 3, iP 3, iP 4, iP 5, iP 4, iP 4, .slice (some ⟨6, 0, none⟩) 4 18446744073709551616, .slice none 0 0, .slice none 0 0]⟩, .slice (some ⟨7, 0, none⟩) 2 18446744073709551616], 8,
   gC ++ [(5, .cells true 0 [iP 10, iP 10, iP 10, iP 11, iP 12, iP 12]),
    (6, .cells true 4 [iP 1, iP 0, iP 1, iP 1, iP 1, iP 1, iP 1, iP 0, iP 0, iP 0, iP 1, iP 0]),
    (7, .cells true 3 [iP 1, iP 0, iP 1, iP 1])],
   [],
   .tuple ⟨[.bool true, iP 0]⟩⟩
theorem pa3_ok : pa3.okS EE.G = true := by kernel_rfl
theorem pa3_run : evT EE zcT 1000000000 (.call pa3.f pa3.args) pa3.heap (keptK pa3) = some (.bool true) := by kernel_rfl
theorem pa3_h : pa3.holds EE := ent_run envOk zcT_holds _ _ pa3_ok pa3_run
-- decani/cold.Ill, 10709 steps
noncomputable def pa18 : Ent :=
  ⟨62, [.agg ⟨[iP 4, iP 5, iP 3, iP 0, iP 1, iP 2, iP 1, iP 1, .slice none 0 0, iP 2, .slice (some ⟨5, 0, none⟩) 1 1]⟩, iP 3, iP 2], 6,
   gC ++ [(5, .cells true 0 [iP 0, iP 1, .bool true])],
   [],
   .tuple ⟨[iP 0, iP 0]⟩⟩
theorem pa18_ok : pa18.okS EE.G = true := by kernel_rfl
theorem pa18_run : evT EE zcT 1000000000 (.call pa18.f pa18.args) pa18.heap (keptK pa18) = some (.bool true) := by kernel_rfl
theorem pa18_h : pa18.holds EE := ent_run envOk zcT_holds _ _ pa18_ok pa18_run
-- decani/strain.Safe, 8938 steps
noncomputable def pa29 : Ent :=
  ⟨68, [.agg ⟨[.slice (some ⟨5, 0, none⟩) 3 3, iP 3, iP 3, iP 4, iP 5, iP 4, iP 4, .slice (some ⟨6, 0, none⟩) 4 18446744073709551616, .slice none 0 0, .slice none 0 0]⟩, .slice (some ⟨7, 0, none⟩) 4 18446744073709551616], 8,
   gC ++ [(5, .cells true 0 [iP 2, iP 2, iP 10, iP 11, iP 12, iP 12]),
    (6, .cells true 4 [iP 2, iP 0, iP 1, iP 0, iP 1, iP 1, iP 2, iP 0, iP 1, iP 0, iP 1, iP 0]),
    (7, .cells true 3 [iP 0, iP 0, iP 2, iP 0, iP 2, iP 1, iP 2, iP 2])],
   [],
   .tuple ⟨[.bool false, iP 0]⟩⟩
theorem pa29_ok : pa29.okS EE.G = true := by kernel_rfl
theorem pa29_run : evT EE zcT 1000000000 (.call pa29.f pa29.args) pa29.heap (keptK pa29) = some (.bool true) := by kernel_rfl
theorem pa29_h : pa29.holds EE := ent_run envOk zcT_holds _ _ pa29_ok pa29_run
-- decani/cold.Ill, 8913 steps
noncomputable def pa33 : Ent :=
  ⟨62, [.agg ⟨[iP 4, iP 5, iP 3, iP 0, iP 1, iP 2, iP 1, iP 1, .slice none 0 0, iP 2, .slice (some ⟨5, 0, none⟩) 1 1]⟩, iP 0, iP 2], 6,
   gC ++ [(5, .cells true 0 [iP 0, iP 1, .bool true])],
   [],
   .tuple ⟨[iP 2, iP 0]⟩⟩
theorem pa33_ok : pa33.okS EE.G = true := by kernel_rfl
theorem pa33_run : evT EE zcT 1000000000 (.call pa33.f pa33.args) pa33.heap (keptK pa33) = some (.bool true) := by kernel_rfl
theorem pa33_h : pa33.holds EE := ent_run envOk zcT_holds _ _ pa33_ok pa33_run
-- decani/strain.Safe, 8492 steps
noncomputable def pa44 : Ent :=
  ⟨68, [.agg ⟨[.slice (some ⟨5, 0, none⟩) 3 3, iP 3, iP 3, iP 4, iP 5, iP 4, iP 4, .slice (some ⟨6, 0, none⟩) 4 18446744073709551616, .slice none 0 0, .slice none 0 0]⟩, .slice (some ⟨7, 0, none⟩) 3 18446744073709551616], 8,
   gC ++ [(5, .cells true 0 [iP 10, iP 10, iP 10, iP 11, iP 12, iP 12]),
    (6, .cells true 4 [iP 1, iP 0, iP 1, iP 0, iP 1, iP 1, iP 2, iP 0, iP 1, iP 0, iP 1, iP 0]),
    (7, .cells true 3 [iP 2, iP 0, iP 2, iP 1, iP 2, iP 2])],
   [],
   .tuple ⟨[.bool false, iP 0]⟩⟩
theorem pa44_ok : pa44.okS EE.G = true := by kernel_rfl
theorem pa44_run : evT EE zcT 1000000000 (.call pa44.f pa44.args) pa44.heap (keptK pa44) = some (.bool true) := by kernel_rfl
theorem pa44_h : pa44.holds EE := ent_run envOk zcT_holds _ _ pa44_ok pa44_run
-- decani/practice.Check, 2819 steps
noncomputable def pa59 : Ent :=
  ⟨16, [.agg ⟨[iP 4, iP 5, iP 3, iP 0, iP 1, iP 2, iP 1, iP 1, .slice none 0 0, iP 2, .slice none 0 0, .slice (some ⟨5, 0, none⟩) 3 3, iP 3, iP 3, iP 4, iP 5, iP 4, iP 4, .slice (some ⟨6, 0, none⟩) 4 4, .slice none 0 0, .slice none 0 0, .slice (some ⟨7, 0, none⟩) 3 3, .slice (some ⟨8, 0, none⟩) 2 2]⟩], 9,
   gC ++ [(5, .cells true 0 [iP 10, iP 10, iP 10, iP 11, iP 12, iP 12]),
    (6, .cells true 0 [iP 1, iP 0, iP 1, iP 0, iP 1, iP 1, iP 1, iP 0, iP 0, iP 0, iP 1, iP 0]),
    (7, .cells true 0 [iP 0, iP 2, iP 3]),
    (8, .cells true 0 [iP 0, iP 1, iP 2, iP 1, iP 3, iP 1])],
   [],
   iP 0⟩
theorem pa59_ok : pa59.okS EE.G = true := by kernel_rfl
theorem pa59_run : evT EE zcT 1000000000 (.call pa59.f pa59.args) pa59.heap (keptK pa59) = some (.bool true) := by kernel_rfl
theorem pa59_h : pa59.holds EE := ent_run envOk zcT_holds _ _ pa59_ok pa59_run
-- decani/practice.Check, 107 steps
noncomputable def pa75 : Ent :=
  ⟨16, [.agg ⟨[iP 0, iP 0, iP 0, iP 0, iP 0, iP 0, iP 0, iP 0, .slice none 0 0, iP 0, .slice none 0 0, .slice none 0 0, iP 0, iP 0, iP 0, iP 0, iP 0, iP 0, .slice none 0 0, .slice none 0 0, .slice none 0 0, .slice none 0 0, .slice none 0 0]⟩], 5,
   gC,
   [],
   iP 100⟩
theorem pa75_ok : pa75.okS EE.G = true := by kernel_rfl
theorem pa75_run : evT EE zcT 1000000000 (.call pa75.f pa75.args) pa75.heap (keptK pa75) = some (.bool true) := by kernel_rfl
theorem pa75_h : pa75.holds EE := ent_run envOk zcT_holds _ _ pa75_ok pa75_run
end Go.Proofs.YtejlmnfioifniaaGreatDoor
