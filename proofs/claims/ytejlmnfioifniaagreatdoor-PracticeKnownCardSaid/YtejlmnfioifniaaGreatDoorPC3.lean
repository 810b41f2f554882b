/- Known calls, part 3: what single calls hand back, at small heaps, by the kernel's own run of the evaluator. No conditions. -/
import Derived.Test.YtejlmnfioifniaaGreatDoorPBX
set_option linter.all false
namespace Go.Proofs.YtejlmnfioifniaaGreatDoor
open Go.Ai
set_option maxRecDepth 1000000
-- decani/practice.Plan, 12967 steps
noncomputable def pc3 : Ent :=
  ⟨14, [.agg ⟨[iP 4, iP 5, iP 3, iP 0, iP 1, iP 2, iP 1, iP 1, .slice none 0 0, iP 2, .slice (some ⟨5, 0, none⟩) 2 2, .slice (some ⟨6, 0, none⟩) 3 3, iP 3, iP 3, iP 4, iP 5, iP 4, iP 4, .slice (some ⟨7, 0, none⟩) 4 4, .slice none 0 0, .slice none 0 0, .slice (some ⟨8, 0, none⟩) 3 3, .slice (some ⟨9, 0, none⟩) 2 2]⟩], 10,
   gC ++ [(5, .cells true 0 [iP 0, iP 1, .bool true, iP 2, iP 2, .bool true]),
    (6, .cells true 0 [iP 10, iP 10, iP 10, iP 11, iP 12, iP 12]),
    (7, .cells true 0 [iP 1, iP 0, iP 1, iP 0, iP 1, iP 1, iP 1, iP 0, iP 0, iP 0, iP 1, iP 0]),
    (8, .cells true 0 [iP 0, iP 2, iP 3]),
    (9, .cells true 0 [iP 0, iP 1, iP 1, iP 1, iP 3, iP 1])],
   [],
   .tuple ⟨[.slice none 0 0, iP 102]⟩⟩
theorem pc3_ok : pc3.okS EE.G = true := by kernel_rfl
theorem pc3_run : evT EE pbxT 1000000000 (.call pc3.f pc3.args) pc3.heap (keptK pc3) = some (.bool true) := by kernel_rfl
theorem pc3_h : pc3.holds EE := ent_run envOk pbxT_holds _ _ pc3_ok pc3_run
-- decani/practice.May, 130405 steps
noncomputable def pc9 : Ent :=
  ⟨11, [.agg ⟨[iP 4, iP 5, iP 3, iP 0, iP 1, iP 2, iP 1, iP 1, .slice none 0 0, iP 2, .slice none 0 0, .slice (some ⟨5, 0, none⟩) 3 3, iP 3, iP 3, iP 4, iP 5, iP 4, iP 4, .slice (some ⟨6, 0, none⟩) 4 4, .slice none 0 0, .slice none 0 0, .slice (some ⟨7, 0, none⟩) 3 3, .slice (some ⟨8, 0, none⟩) 2 2]⟩, .slice (some ⟨9, 0, none⟩) 2 2], 10,
   gC ++ [(5, .cells true 0 [iP 10, iP 10, iP 10, iP 11, iP 12, iP 12]),
    (6, .cells true 0 [iP 1, iP 0, iP 1, iP 0, iP 1, iP 1, iP 1, iP 0, iP 0, iP 0, iP 1, iP 0]),
    (7, .cells true 0 [iP 0, iP 2, iP 3]),
    (8, .cells true 0 [iP 0, iP 1, iP 1, iP 1, iP 3, iP 1]),
    (9, .cells true 0 [iP 9, iP 9])],
   [],
   .tuple ⟨[.bool true, iP 0]⟩⟩
theorem pc9_ok : pc9.okS EE.G = true := by kernel_rfl
theorem pc9_run : evT EE pbxT 1000000000 (.call pc9.f pc9.args) pc9.heap (keptK pc9) = some (.bool true) := by kernel_rfl
theorem pc9_h : pc9.holds EE := ent_run envOk pbxT_holds _ _ pc9_ok pc9_run
-- decani/practice.May, 115291 steps
noncomputable def pc15 : Ent :=
  ⟨11, [.agg ⟨[iP 4, iP 5, iP 3, iP 0, iP 1, iP 2, iP 1, iP 1, .slice none 0 0, iP 2, .slice none 0 0, .slice (some ⟨5, 0, none⟩) 3 3, iP 3, iP 3, iP 4, iP 5, iP 4, iP 4, .slice (some ⟨6, 0, none⟩) 4 4, .slice none 0 0, .slice none 0 0, .slice (some ⟨7, 0, none⟩) 3 3, .slice (some ⟨8, 0, none⟩) 2 2]⟩, .slice (some ⟨9, 0, none⟩) 2 2], 10,
   gC ++ [(5, .cells true 0 [iP 10, iP 10, iP 10, iP 11, iP 12, iP 12]),
    (6, .cells true 0 [iP 1, iP 0, iP 1, iP 0, iP 1, iP 1, iP 1, iP 0, iP 0, iP 0, iP 1, iP 0]),
    (7, .cells true 0 [iP 0, iP 2, iP 3]),
    (8, .cells true 0 [iP 0, iP 1, iP 1, iP 1, iP 3, iP 1]),
    (9, .cells true 0 [iP 2, iP 1])],
   [],
   .tuple ⟨[.bool false, iP 0]⟩⟩
theorem pc15_ok : pc15.okS EE.G = true := by kernel_rfl
theorem pc15_run : evT EE pbxT 1000000000 (.call pc15.f pc15.args) pc15.heap (keptK pc15) = some (.bool true) := by kernel_rfl
theorem pc15_h : pc15.holds EE := ent_run envOk pbxT_holds _ _ pc15_ok pc15_run
-- decani/practice.Kept, 115364 steps
noncomputable def pc21 : Ent :=
  ⟨10, [.agg ⟨[iP 4, iP 5, iP 3, iP 0, iP 1, iP 2, iP 1, iP 1, .slice none 0 0, iP 2, .slice none 0 0, .slice (some ⟨5, 0, none⟩) 3 3, iP 3, iP 3, iP 4, iP 5, iP 4, iP 4, .slice (some ⟨6, 0, none⟩) 4 4, .slice none 0 0, .slice none 0 0, .slice (some ⟨7, 0, none⟩) 3 3, .slice (some ⟨8, 0, none⟩) 2 2]⟩, iP 2], 9,
   gC ++ [(5, .cells true 0 [iP 10, iP 10, iP 10, iP 11, iP 12, iP 12]),
    (6, .cells true 0 [iP 1, iP 0, iP 1, iP 0, iP 1, iP 1, iP 1, iP 0, iP 0, iP 0, iP 1, iP 0]),
    (7, .cells true 0 [iP 0, iP 2, iP 3]),
    (8, .cells true 0 [iP 0, iP 1, iP 1, iP 1, iP 3, iP 1])],
   [.cells true 2 [iP 0, iP 1, iP 2]],
   .tuple ⟨[.slice (some ⟨9, 0, none⟩) 3 18446744073709551616, iP 0]⟩⟩
theorem pc21_ok : pc21.okS EE.G = true := by kernel_rfl
theorem pc21_run : evT EE pbxT 1000000000 (.call pc21.f pc21.args) pc21.heap (keptK pc21) = some (.bool true) := by kernel_rfl
theorem pc21_h : pc21.holds EE := ent_run envOk pbxT_holds _ _ pc21_ok pc21_run
-- decani/practice.Never, 187626 steps
noncomputable def pc27 : Ent :=
  ⟨15, [.agg ⟨[iP 4, iP 5, iP 3, iP 0, iP 1, iP 2, iP 1, iP 1, .slice none 0 0, iP 2, .slice none 0 0, .slice (some ⟨5, 0, none⟩) 3 3, iP 3, iP 3, iP 4, iP 5, iP 4, iP 4, .slice (some ⟨6, 0, none⟩) 4 4, .slice none 0 0, .slice none 0 0, .slice (some ⟨7, 0, none⟩) 3 3, .slice (some ⟨8, 0, none⟩) 2 2]⟩], 9,
   gC ++ [(5, .cells true 0 [iP 10, iP 10, iP 10, iP 11, iP 12, iP 12]),
    (6, .cells true 0 [iP 1, iP 0, iP 1, iP 0, iP 1, iP 1, iP 1, iP 0, iP 0, iP 0, iP 1, iP 0]),
    (7, .cells true 0 [iP 0, iP 2, iP 3]),
    (8, .cells true 0 [iP 0, iP 1, iP 1, iP 1, iP 3, iP 1])],
   [],
   .tuple ⟨[.slice none 0 0, iP 0]⟩⟩
theorem pc27_ok : pc27.okS EE.G = true := by kernel_rfl
theorem pc27_run : evT EE pbxT 1000000000 (.call pc27.f pc27.args) pc27.heap (keptK pc27) = some (.bool true) := by kernel_rfl
theorem pc27_h : pc27.holds EE := ent_run envOk pbxT_holds _ _ pc27_ok pc27_run
-- decani/practice.Plan, 238431 steps
noncomputable def pc33 : Ent :=
  ⟨14, [.agg ⟨[iP 4, iP 5, iP 3, iP 0, iP 1, iP 2, iP 1, iP 1, .slice none 0 0, iP 2, .slice none 0 0, .slice (some ⟨5, 0, none⟩) 3 3, iP 3, iP 3, iP 4, iP 5, iP 4, iP 4, .slice (some ⟨6, 0, none⟩) 4 4, .slice none 0 0, .slice none 0 0, .slice (some ⟨7, 0, none⟩) 3 3, .slice (some ⟨8, 0, none⟩) 2 2]⟩], 9,
   gC ++ [(5, .cells true 0 [iP 10, iP 10, iP 10, iP 11, iP 12, iP 12]),
    (6, .cells true 0 [iP 1, iP 0, iP 1, iP 0, iP 1, iP 1, iP 1, iP 0, iP 0, iP 0, iP 1, iP 0]),
    (7, .cells true 0 [iP 0, iP 2, iP 3]),
    (8, .cells true 0 [iP 0, iP 1, iP 1, iP 2, iP 3, iP 1])],
   [.cells true 0 [iP 0, iP 9, iP 9]],
   .tuple ⟨[.slice (some ⟨9, 0, none⟩) 2 2, iP 0]⟩⟩
theorem pc33_ok : pc33.okS EE.G = true := by kernel_rfl
theorem pc33_run : evT EE pbxT 1000000000 (.call pc33.f pc33.args) pc33.heap (keptK pc33) = some (.bool true) := by kernel_rfl
theorem pc33_h : pc33.holds EE := ent_run envOk pbxT_holds _ _ pc33_ok pc33_run
-- decani/practice.Kept, 2850 steps
noncomputable def pc39 : Ent :=
  ⟨10, [.agg ⟨[iP 4, iP 5, iP 3, iP 0, iP 1, iP 2, iP 1, iP 1, .slice none 0 0, iP 2, .slice none 0 0, .slice (some ⟨5, 0, none⟩) 3 3, iP 3, iP 3, iP 4, iP 5, iP 4, iP 4, .slice (some ⟨6, 0, none⟩) 4 4, .slice none 0 0, .slice none 0 0, .slice (some ⟨7, 0, none⟩) 3 3, .slice (some ⟨8, 0, none⟩) 2 2]⟩, iN 0], 9,
   gC ++ [(5, .cells true 0 [iP 10, iP 10, iP 10, iP 11, iP 12, iP 12]),
    (6, .cells true 0 [iP 1, iP 0, iP 1, iP 0, iP 1, iP 1, iP 1, iP 0, iP 0, iP 0, iP 1, iP 0]),
    (7, .cells true 0 [iP 0, iP 2, iP 3]),
    (8, .cells true 0 [iP 0, iP 1, iP 1, iP 4, iP 3, iP 1])],
   [],
   .tuple ⟨[.slice none 0 0, iP 100]⟩⟩
theorem pc39_ok : pc39.okS EE.G = true := by kernel_rfl
theorem pc39_run : evT EE pbxT 1000000000 (.call pc39.f pc39.args) pc39.heap (keptK pc39) = some (.bool true) := by kernel_rfl
theorem pc39_h : pc39.holds EE := ent_run envOk pbxT_holds _ _ pc39_ok pc39_run
-- decani/practice.May, 2811 steps
noncomputable def pc43 : Ent :=
  ⟨11, [.agg ⟨[iP 4, iP 5, iP 3, iP 0, iP 1, iP 2, iP 1, iP 1, .slice none 0 0, iP 2, .slice none 0 0, .slice (some ⟨5, 0, none⟩) 3 3, iP 3, iP 3, iP 4, iP 5, iP 4, iP 4, .slice (some ⟨6, 0, none⟩) 4 4, .slice none 0 0, .slice none 0 0, .slice (some ⟨7, 0, none⟩) 3 3, .slice (some ⟨8, 0, none⟩) 2 2]⟩, .slice none 0 0], 9,
   gC ++ [(5, .cells true 0 [iP 10, iP 10, iP 10, iP 11, iP 12, iP 12]),
    (6, .cells true 0 [iP 1, iP 0, iP 1, iP 0, iP 1, iP 1, iP 1, iP 0, iP 0, iP 0, iP 1, iP 0]),
    (7, .cells true 0 [iP 0, iP 2, iP 3]),
    (8, .cells true 0 [iP 0, iP 1, iP 1, iP 4, iP 3, iP 1])],
   [],
   .tuple ⟨[.bool false, iP 100]⟩⟩
theorem pc43_ok : pc43.okS EE.G = true := by kernel_rfl
theorem pc43_run : evT EE pbxT 1000000000 (.call pc43.f pc43.args) pc43.heap (keptK pc43) = some (.bool true) := by kernel_rfl
theorem pc43_h : pc43.holds EE := ent_run envOk pbxT_holds _ _ pc43_ok pc43_run
-- decani/practice.May, 2811 steps
noncomputable def pc47 : Ent :=
  ⟨11, [.agg ⟨[iP 4, iP 5, iP 3, iP 0, iP 1, iP 2, iP 1, iP 1, .slice none 0 0, iP 2, .slice none 0 0, .slice (some ⟨5, 0, none⟩) 3 3, iP 3, iP 3, iP 4, iP 5, iP 4, iP 4, .slice (some ⟨6, 0, none⟩) 4 4, .slice none 0 0, .slice none 0 0, .slice (some ⟨7, 0, none⟩) 3 3, .slice (some ⟨8, 0, none⟩) 2 2]⟩, .slice none 0 0], 9,
   gC ++ [(5, .cells true 0 [iP 10, iP 10, iP 10, iP 11, iP 12, iP 12]),
    (6, .cells true 0 [iP 1, iP 0, iP 1, iP 0, iP 1, iP 1, iP 1, iP 0, iP 0, iP 0, iP 1, iP 0]),
    (7, .cells true 0 [iP 0, iP 2, iP 3]),
    (8, .cells true 0 [iP 0, iP 1, iP 1, iN 0, iP 3, iP 1])],
   [],
   .tuple ⟨[.bool false, iP 100]⟩⟩
theorem pc47_ok : pc47.okS EE.G = true := by kernel_rfl
theorem pc47_run : evT EE pbxT 1000000000 (.call pc47.f pc47.args) pc47.heap (keptK pc47) = some (.bool true) := by kernel_rfl
theorem pc47_h : pc47.holds EE := ent_run envOk pbxT_holds _ _ pc47_ok pc47_run
-- decani/practice.Kept, 2763 steps
noncomputable def pc53 : Ent :=
  ⟨10, [.agg ⟨[iP 4, iP 5, iP 3, iP 0, iP 1, iP 2, iP 1, iP 1, .slice none 0 0, iP 2, .slice none 0 0, .slice (some ⟨5, 0, none⟩) 3 3, iP 3, iP 3, iP 4, iP 5, iP 4, iP 4, .slice (some ⟨6, 0, none⟩) 4 4, .slice none 0 0, .slice none 0 0, .slice (some ⟨7, 0, none⟩) 3 3, .slice (some ⟨8, 0, none⟩) 2 2]⟩, iN 0], 9,
   gC ++ [(5, .cells true 0 [iP 10, iP 10, iP 10, iP 11, iP 12, iP 12]),
    (6, .cells true 0 [iP 1, iP 0, iP 1, iP 0, iP 1, iP 1, iP 1, iP 0, iP 0, iP 0, iP 1, iP 0]),
    (7, .cells true 0 [iP 0, iP 2, iP 3]),
    (8, .cells true 0 [iP 0, iP 1, iP 4, iP 1, iP 3, iP 1])],
   [],
   .tuple ⟨[.slice none 0 0, iP 100]⟩⟩
theorem pc53_ok : pc53.okS EE.G = true := by kernel_rfl
theorem pc53_run : evT EE pbxT 1000000000 (.call pc53.f pc53.args) pc53.heap (keptK pc53) = some (.bool true) := by kernel_rfl
theorem pc53_h : pc53.holds EE := ent_run envOk pbxT_holds _ _ pc53_ok pc53_run
-- decani/practice.May, 2578 steps
noncomputable def pc62 : Ent :=
  ⟨11, [.agg ⟨[iP 4, iP 5, iP 3, iP 0, iP 1, iP 2, iP 1, iP 1, .slice none 0 0, iP 2, .slice none 0 0, .slice (some ⟨5, 0, none⟩) 3 3, iP 3, iP 3, iP 4, iP 5, iP 4, iP 4, .slice (some ⟨6, 0, none⟩) 4 4, .slice none 0 0, .slice none 0 0, .slice (some ⟨7, 0, none⟩) 3 3, .slice (some ⟨8, 0, none⟩) 4 4]⟩, .slice none 0 0], 9,
   gC ++ [(5, .cells true 0 [iP 10, iP 10, iP 10, iP 11, iP 12, iP 12]),
    (6, .cells true 0 [iP 1, iP 0, iP 1, iP 0, iP 1, iP 1, iP 1, iP 0, iP 0, iP 0, iP 1, iP 0]),
    (7, .cells true 0 [iP 0, iP 2, iP 3]),
    (8, .cells true 0 [iP 0, iP 0, iP 0, iP 0, iP 0, iP 0, iP 0, iP 0, iP 0, iP 0, iP 0, iP 0])],
   [],
   .tuple ⟨[.bool false, iP 100]⟩⟩
theorem pc62_ok : pc62.okS EE.G = true := by kernel_rfl
theorem pc62_run : evT EE pbxT 1000000000 (.call pc62.f pc62.args) pc62.heap (keptK pc62) = some (.bool true) := by kernel_rfl
theorem pc62_h : pc62.holds EE := ent_run envOk pbxT_holds _ _ pc62_ok pc62_run
-- decani/practice.Never, 2578 steps
noncomputable def pc65 : Ent :=
  ⟨15, [.agg ⟨[iP 4, iP 5, iP 3, iP 0, iP 1, iP 2, iP 1, iP 1, .slice none 0 0, iP 2, .slice none 0 0, .slice (some ⟨5, 0, none⟩) 3 3, iP 3, iP 3, iP 4, iP 5, iP 4, iP 4, .slice (some ⟨6, 0, none⟩) 4 4, .slice none 0 0, .slice none 0 0, .slice (some ⟨7, 0, none⟩) 3 3, .slice (some ⟨8, 0, none⟩) 4 4]⟩], 9,
   gC ++ [(5, .cells true 0 [iP 10, iP 10, iP 10, iP 11, iP 12, iP 12]),
    (6, .cells true 0 [iP 1, iP 0, iP 1, iP 0, iP 1, iP 1, iP 1, iP 0, iP 0, iP 0, iP 1, iP 0]),
    (7, .cells true 0 [iP 0, iP 2, iP 3]),
    (8, .cells true 0 [iP 0, iP 0, iP 0, iP 0, iP 0, iP 0, iP 0, iP 0, iP 0, iP 0, iP 0, iP 0])],
   [],
   .tuple ⟨[.slice none 0 0, iP 100]⟩⟩
theorem pc65_ok : pc65.okS EE.G = true := by kernel_rfl
theorem pc65_run : evT EE pbxT 1000000000 (.call pc65.f pc65.args) pc65.heap (keptK pc65) = some (.bool true) := by kernel_rfl
theorem pc65_h : pc65.holds EE := ent_run envOk pbxT_holds _ _ pc65_ok pc65_run
-- decani/practice.Never, 2445 steps
noncomputable def pc72 : Ent :=
  ⟨15, [.agg ⟨[iP 4, iP 5, iP 3, iP 0, iP 1, iP 2, iP 1, iP 1, .slice none 0 0, iP 2, .slice none 0 0, .slice (some ⟨5, 0, none⟩) 3 3, iP 3, iP 3, iP 4, iP 5, iP 4, iP 4, .slice (some ⟨6, 0, none⟩) 4 4, .slice none 0 0, .slice none 0 0, .slice (some ⟨7, 0, none⟩) 3 3, .slice (some ⟨8, 0, none⟩) 2 2]⟩], 9,
   gC ++ [(5, .cells true 0 [iP 10, iP 10, iP 10, iP 11, iP 12, iP 12]),
    (6, .cells true 0 [iP 1, iP 0, iP 1, iP 0, iP 1, iP 1, iP 1, iP 0, iP 0, iP 0, iP 1, iP 0]),
    (7, .cells true 0 [iP 0, iP 2, iP 4]),
    (8, .cells true 0 [iP 0, iP 1, iP 1, iP 1, iP 3, iP 1])],
   [],
   .tuple ⟨[.slice none 0 0, iP 100]⟩⟩
theorem pc72_ok : pc72.okS EE.G = true := by kernel_rfl
theorem pc72_run : evT EE pbxT 1000000000 (.call pc72.f pc72.args) pc72.heap (keptK pc72) = some (.bool true) := by kernel_rfl
theorem pc72_h : pc72.holds EE := ent_run envOk pbxT_holds _ _ pc72_ok pc72_run
-- decani/practice.Right, 2326 steps
noncomputable def pc80 : Ent :=
  ⟨9, [.agg ⟨[iP 4, iP 5, iP 3, iP 0, iP 1, iP 2, iP 1, iP 1, .slice none 0 0, iP 2, .slice none 0 0, .slice (some ⟨5, 0, none⟩) 3 3, iP 3, iP 3, iP 4, iP 5, iP 4, iP 4, .slice (some ⟨6, 0, none⟩) 4 4, .slice none 0 0, .slice none 0 0, .slice (some ⟨7, 0, none⟩) 3 3, .slice (some ⟨8, 0, none⟩) 2 2]⟩], 9,
   gC ++ [(5, .cells true 0 [iP 10, iP 10, iP 10, iP 11, iP 12, iP 12]),
    (6, .cells true 0 [iP 1, iP 0, iP 1, iP 0, iP 1, iP 1, iP 1, iP 0, iP 0, iP 0, iP 1, iP 0]),
    (7, .cells true 0 [iP 0, iP 0, iP 3]),
    (8, .cells true 0 [iP 0, iP 1, iP 1, iP 1, iP 3, iP 1])],
   [],
   .tuple ⟨[.bool false, iP 100]⟩⟩
theorem pc80_ok : pc80.okS EE.G = true := by kernel_rfl
theorem pc80_run : evT EE pbxT 1000000000 (.call pc80.f pc80.args) pc80.heap (keptK pc80) = some (.bool true) := by kernel_rfl
theorem pc80_h : pc80.holds EE := ent_run envOk pbxT_holds _ _ pc80_ok pc80_run
-- decani/practice.Keeps, 2108 steps
noncomputable def pc86 : Ent :=
  ⟨12, [.agg ⟨[iP 4, iP 5, iP 3, iP 0, iP 1, iP 2, iP 1, iP 1, .slice none 0 0, iP 2, .slice none 0 0, .slice (some ⟨5, 0, none⟩) 3 3, iP 3, iP 3, iP 4, iP 5, iP 4, iP 4, .slice (some ⟨6, 0, none⟩) 4 4, .slice none 0 0, .slice none 0 0, .slice (some ⟨7, 0, none⟩) 2 2, .slice (some ⟨8, 0, none⟩) 2 2]⟩, .slice none 0 0], 9,
   gC ++ [(5, .cells true 0 [iP 10, iP 10, iP 10, iP 11, iP 12, iP 12]),
    (6, .cells true 0 [iP 1, iP 0, iP 1, iP 0, iP 1, iP 1, iP 1, iP 0, iP 0, iP 0, iP 1, iP 0]),
    (7, .cells true 0 [iP 0, iP 2]),
    (8, .cells true 0 [iP 0, iP 1, iP 1, iP 1, iP 3, iP 1])],
   [],
   .tuple ⟨[iP 0, iP 100]⟩⟩
theorem pc86_ok : pc86.okS EE.G = true := by kernel_rfl
theorem pc86_run : evT EE pbxT 1000000000 (.call pc86.f pc86.args) pc86.heap (keptK pc86) = some (.bool true) := by kernel_rfl
theorem pc86_h : pc86.holds EE := ent_run envOk pbxT_holds _ _ pc86_ok pc86_run
-- decani/practice.Never, 2084 steps
noncomputable def pc92 : Ent :=
  ⟨15, [.agg ⟨[iP 4, iP 3, iP 3, iP 0, iP 1, iP 2, iP 1, iP 1, .slice none 0 0, iP 2, .slice none 0 0, .slice (some ⟨5, 0, none⟩) 3 3, iP 3, iP 3, iP 4, iP 5, iP 4, iP 4, .slice (some ⟨6, 0, none⟩) 4 4, .slice none 0 0, .slice none 0 0, .slice (some ⟨7, 0, none⟩) 3 3, .slice (some ⟨8, 0, none⟩) 2 2]⟩], 9,
   gC ++ [(5, .cells true 0 [iP 10, iP 10, iP 10, iP 11, iP 12, iP 12]),
    (6, .cells true 0 [iP 1, iP 0, iP 1, iP 0, iP 1, iP 1, iP 1, iP 0, iP 0, iP 0, iP 1, iP 0]),
    (7, .cells true 0 [iP 0, iP 2, iP 3]),
    (8, .cells true 0 [iP 0, iP 1, iP 1, iP 1, iP 3, iP 1])],
   [],
   .tuple ⟨[.slice none 0 0, iP 100]⟩⟩
theorem pc92_ok : pc92.okS EE.G = true := by kernel_rfl
theorem pc92_run : evT EE pbxT 1000000000 (.call pc92.f pc92.args) pc92.heap (keptK pc92) = some (.bool true) := by kernel_rfl
theorem pc92_h : pc92.holds EE := ent_run envOk pbxT_holds _ _ pc92_ok pc92_run
-- decani/practice.Never, 1183 steps
noncomputable def pc100 : Ent :=
  ⟨15, [.agg ⟨[iP 4, iP 5, iP 3, iP 0, iP 1, iP 2, iP 1, iP 1, .slice none 0 0, iP 2, .slice none 0 0, .slice (some ⟨5, 0, none⟩) 3 3, iP 7, iP 7, iP 4, iP 5, iP 4, iP 4, .slice (some ⟨6, 0, none⟩) 4 4, .slice none 0 0, .slice none 0 0, .slice (some ⟨7, 0, none⟩) 3 3, .slice (some ⟨8, 0, none⟩) 2 2]⟩], 9,
   gC ++ [(5, .cells true 0 [iP 10, iP 10, iP 10, iP 11, iP 12, iP 12]),
    (6, .cells true 0 [iP 1, iP 0, iP 1, iP 0, iP 1, iP 1, iP 1, iP 0, iP 0, iP 0, iP 1, iP 0]),
    (7, .cells true 0 [iP 0, iP 2, iP 3]),
    (8, .cells true 0 [iP 0, iP 1, iP 1, iP 1, iP 3, iP 1])],
   [],
   .tuple ⟨[.slice none 0 0, iP 100]⟩⟩
theorem pc100_ok : pc100.okS EE.G = true := by kernel_rfl
theorem pc100_run : evT EE pbxT 1000000000 (.call pc100.f pc100.args) pc100.heap (keptK pc100) = some (.bool true) := by kernel_rfl
theorem pc100_h : pc100.holds EE := ent_run envOk pbxT_holds _ _ pc100_ok pc100_run
-- decani/practice.Plan, 282 steps
noncomputable def pc106 : Ent :=
  ⟨14, [.agg ⟨[iP 4, iP 5, iP 3, iP 0, iP 1, iP 2, iP 1, iP 1, .slice none 0 0, iP 4, .slice none 0 0, .slice (some ⟨5, 0, none⟩) 3 3, iP 3, iP 3, iP 4, iP 5, iP 4, iP 4, .slice (some ⟨6, 0, none⟩) 4 4, .slice none 0 0, .slice none 0 0, .slice (some ⟨7, 0, none⟩) 3 3, .slice (some ⟨8, 0, none⟩) 2 2]⟩], 9,
   gC ++ [(5, .cells true 0 [iP 10, iP 10, iP 10, iP 11, iP 12, iP 12]),
    (6, .cells true 0 [iP 1, iP 0, iP 1, iP 0, iP 1, iP 1, iP 1, iP 0, iP 0, iP 0, iP 1, iP 0]),
    (7, .cells true 0 [iP 0, iP 2, iP 3]),
    (8, .cells true 0 [iP 0, iP 1, iP 1, iP 1, iP 3, iP 1])],
   [],
   .tuple ⟨[.slice none 0 0, iP 100]⟩⟩
theorem pc106_ok : pc106.okS EE.G = true := by kernel_rfl
theorem pc106_run : evT EE pbxT 1000000000 (.call pc106.f pc106.args) pc106.heap (keptK pc106) = some (.bool true) := by kernel_rfl
theorem pc106_h : pc106.holds EE := ent_run envOk pbxT_holds _ _ pc106_ok pc106_run
-- decani/practice.Alone, 205 steps
noncomputable def pc110 : Ent :=
  ⟨13, [.agg ⟨[iP 0, iP 0, iP 0, iP 0, iP 0, iP 0, iP 0, iP 0, .slice none 0 0, iP 0, .slice none 0 0, .slice none 0 0, iP 0, iP 0, iP 0, iP 0, iP 0, iP 0, .slice none 0 0, .slice none 0 0, .slice none 0 0, .slice none 0 0, .slice none 0 0]⟩, iN 0], 5,
   gC,
   [],
   .tuple ⟨[.slice none 0 0, iP 100]⟩⟩
theorem pc110_ok : pc110.okS EE.G = true := by kernel_rfl
theorem pc110_run : evT EE pbxT 1000000000 (.call pc110.f pc110.args) pc110.heap (keptK pc110) = some (.bool true) := by kernel_rfl
theorem pc110_h : pc110.holds EE := ent_run envOk pbxT_holds _ _ pc110_ok pc110_run
-- decani/practice.Never, 167 steps
noncomputable def pc114 : Ent :=
  ⟨15, [.agg ⟨[iP 0, iP 0, iP 0, iP 0, iP 0, iP 0, iP 0, iP 0, .slice none 0 0, iP 0, .slice none 0 0, .slice none 0 0, iP 0, iP 0, iP 0, iP 0, iP 0, iP 0, .slice none 0 0, .slice none 0 0, .slice none 0 0, .slice none 0 0, .slice none 0 0]⟩], 5,
   gC,
   [],
   .tuple ⟨[.slice none 0 0, iP 100]⟩⟩
theorem pc114_ok : pc114.okS EE.G = true := by kernel_rfl
theorem pc114_run : evT EE pbxT 1000000000 (.call pc114.f pc114.args) pc114.heap (keptK pc114) = some (.bool true) := by kernel_rfl
theorem pc114_h : pc114.holds EE := ent_run envOk pbxT_holds _ _ pc114_ok pc114_run
end Go.Proofs.YtejlmnfioifniaaGreatDoor
