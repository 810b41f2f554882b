/- Known calls, part 5: what single calls hand back, at small heaps, by the kernel's own run of the evaluator. No conditions. -/
import Derived.Test.YtejlmnfioifniaaGreatDoorPZC
set_option linter.all false
namespace Go.Proofs.YtejlmnfioifniaaGreatDoor
open Go.Ai
set_option maxRecDepth 1000000
-- decani/strain.Safe, 14648 steps
noncomputable def pa5 : Ent :=
  ⟨68, [.agg ⟨[.slice (some ⟨5, 0, none⟩) 3 3, iP 3, iP 3, iP 4, iP 5, iP 4, iP 4, .slice (some ⟨6, 0, none⟩) 4 18446744073709551616, .slice none 0 0, .slice none 0 0]⟩, .slice (some ⟨7, 0, none⟩) 2 18446744073709551616], 8,
   gC ++ [(5, .cells true 0 [iP 10, iP 10, iP 10, iP 11, iP 12, iP 12]),
    (6, .cells true 4 [iP 2, iP 0, iP 1, iP 1, iP 1, iP 1, iP 1, iP 0, iP 0, iP 0, iP 1, iP 0]),
    (7, .cells true 3 [iP 0, iP 0, iP 1, iP 0])],
   [],
   .tuple ⟨[.bool true, iP 0]⟩⟩
theorem pa5_ok : pa5.okS EE.G = true := by kernel_rfl
theorem pa5_run : evT EE zcT 1000000000 (.call pa5.f pa5.args) pa5.heap (keptK pa5) = some (.bool true) := by kernel_rfl
theorem pa5_h : pa5.holds EE := ent_run envOk zcT_holds _ _ pa5_ok pa5_run
-- decani/cold.Ill, 10709 steps
noncomputable def pa16 : Ent :=
  ⟨62, [.agg ⟨[iP 4, iP 5, iP 3, iP 0, iP 1, iP 2, iP 1, iP 1, .slice none 0 0, iP 2, .slice (some ⟨5, 0, none⟩) 1 1]⟩, iP 3, iP 0], 6,
   gC ++ [(5, .cells true 0 [iP 0, iP 1, .bool true])],
   [],
   .tuple ⟨[iP 0, iP 0]⟩⟩
theorem pa16_ok : pa16.okS EE.G = true := by kernel_rfl
theorem pa16_run : evT EE zcT 1000000000 (.call pa16.f pa16.args) pa16.heap (keptK pa16) = some (.bool true) := by kernel_rfl
theorem pa16_h : pa16.holds EE := ent_run envOk zcT_holds _ _ pa16_ok pa16_run
-- decani/strain.Safe, 9115 steps
noncomputable def pa27 : Ent :=
  ⟨68, [.agg ⟨[.slice (some ⟨5, 0, none⟩) 3 3, iP 3, iP 3, iP 4, iP 5, iP 4, iP 4, .slice (some ⟨6, 0, none⟩) 4 18446744073709551616, .slice none 0 0, .slice none 0 0]⟩, .slice (some ⟨7, 0, none⟩) 4 18446744073709551616], 8,
   gC ++ [(5, .cells true 0 [iP 10, iP 10, iP 10, iP 11, iP 12, iP 12]),
    (6, .cells true 4 [iP 2, iP 0, iP 1, iP 0, iP 1, iP 1, iP 1, iP 0, iP 0, iP 1, iP 1, iP 1]),
    (7, .cells true 3 [iP 0, iP 0, iP 3, iP 0, iP 3, iP 1, iP 3, iP 2])],
   [],
   .tuple ⟨[.bool false, iP 0]⟩⟩
theorem pa27_ok : pa27.okS EE.G = true := by kernel_rfl
theorem pa27_run : evT EE zcT 1000000000 (.call pa27.f pa27.args) pa27.heap (keptK pa27) = some (.bool true) := by kernel_rfl
theorem pa27_h : pa27.holds EE := ent_run envOk zcT_holds _ _ pa27_ok pa27_run
-- decani/cold.Ill, 8913 steps
noncomputable def pa35 : Ent :=
  ⟨62, [.agg ⟨[iP 4, iP 5, iP 3, iP 0, iP 1, iP 2, iP 1, iP 1, .slice none 0 0, iP 2, .slice (some ⟨5, 0, none⟩) 1 1]⟩, iP 2, iP 2], 6,
   gC ++ [(5, .cells true 0 [iP 0, iP 1, .bool true])],
   [],
   .tuple ⟨[iP 2, iP 0]⟩⟩
theorem pa35_ok : pa35.okS EE.G = true := by kernel_rfl
theorem pa35_run : evT EE zcT 1000000000 (.call pa35.f pa35.args) pa35.heap (keptK pa35) = some (.bool true) := by kernel_rfl
theorem pa35_h : pa35.holds EE := ent_run envOk zcT_holds _ _ pa35_ok pa35_run
-- decani/cold.Ill, 8458 steps
noncomputable def pa49 : Ent :=
  ⟨62, [.agg ⟨[iP 4, iP 5, iP 3, iP 0, iP 1, iP 2, iP 1, iP 1, .slice none 0 0, iP 2, .slice none 0 0]⟩, iP 2, iP 3], 5,
   gC,
   [],
   .tuple ⟨[iP 2, iP 0]⟩⟩
theorem pa49_ok : pa49.okS EE.G = true := by kernel_rfl
theorem pa49_run : evT EE zcT 1000000000 (.call pa49.f pa49.args) pa49.heap (keptK pa49) = some (.bool true) := by kernel_rfl
theorem pa49_h : pa49.holds EE := ent_run envOk zcT_holds _ _ pa49_ok pa49_run
-- decani/strain.Right, 2567 steps
noncomputable def pa65 : Ent :=
  ⟨41, [.agg ⟨[.slice (some ⟨5, 0, none⟩) 3 3, iP 3, iP 3, iP 4, iP 5, iP 4, iP 4, .slice (some ⟨6, 0, none⟩) 4 4, .slice none 0 0, .slice none 0 0]⟩], 7,
   gC ++ [(5, .cells true 0 [iP 2, iP 2, iP 10, iP 11, iP 12, iP 12]),
    (6, .cells true 0 [iP 1, iP 0, iP 1, iP 0, iP 1, iP 1, iP 1, iP 0, iP 0, iP 0, iP 1, iP 0])],
   [],
   .tuple ⟨[.bool true, iP 0]⟩⟩
theorem pa65_ok : pa65.okS EE.G = true := by kernel_rfl
theorem pa65_run : evT EE zcT 1000000000 (.call pa65.f pa65.args) pa65.heap (keptK pa65) = some (.bool true) := by kernel_rfl
theorem pa65_h : pa65.holds EE := ent_run envOk zcT_holds _ _ pa65_ok pa65_run
-- decani/practice.Check, 2024 steps
noncomputable def pa72 : Ent :=
  ⟨16, [.agg ⟨[iP 4, iP 3, iP 3, iP 0, iP 1, iP 2, iP 1, iP 1, .slice none 0 0, iP 2, .slice none 0 0, .slice (some ⟨5, 0, none⟩) 3 3, iP 3, iP 3, iP 4, iP 5, iP 4, iP 4, .slice (some ⟨6, 0, none⟩) 4 4, .slice none 0 0, .slice none 0 0, .slice (some ⟨7, 0, none⟩) 3 3, .slice (some ⟨8, 0, none⟩) 2 2]⟩], 9,
   gC ++ [(5, .cells true 0 [iP 10, iP 10, iP 10, iP 11, iP 12, iP 12]),
    (6, .cells true 0 [iP 1, iP 0, iP 1, iP 0, iP 1, iP 1, iP 1, iP 0, iP 0, iP 0, iP 1, iP 0]),
    (7, .cells true 0 [iP 0, iP 2, iP 3]),
    (8, .cells true 0 [iP 0, iP 1, iP 1, iP 1, iP 3, iP 1])],
   [],
   iP 100⟩
theorem pa72_ok : pa72.okS EE.G = true := by kernel_rfl
theorem pa72_run : evT EE zcT 1000000000 (.call pa72.f pa72.args) pa72.heap (keptK pa72) = some (.bool true) := by kernel_rfl
theorem pa72_h : pa72.holds EE := ent_run envOk zcT_holds _ _ pa72_ok pa72_run
end Go.Proofs.YtejlmnfioifniaaGreatDoor
