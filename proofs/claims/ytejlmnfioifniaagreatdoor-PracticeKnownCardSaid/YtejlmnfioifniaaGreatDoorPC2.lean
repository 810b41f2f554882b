/- Known calls, part 2: what single calls hand back, at small heaps, by the kernel's own run of the evaluator. No conditions. -/
import Derived.Test.YtejlmnfioifniaaGreatDoorPBX
set_option linter.all false
namespace Go.Proofs.YtejlmnfioifniaaGreatDoor
open Go.Ai
set_option maxRecDepth 1000000
-- decani/practice.Kept, 9709 steps
noncomputable def pc2 : Ent :=
  ⟨10, [.agg ⟨[iP 4, iP 5, iP 3, iP 0, iP 1, iP 2, iP 1, iP 1, .slice none 0 0, iP 2, .slice none 0 0, .slice (some ⟨5, 0, none⟩) 3 3, iP 3, iP 3, iP 4, iP 5, iP 4, iP 4, .slice (some ⟨6, 0, none⟩) 4 4, .slice none 0 0, .slice (some ⟨7, 0, none⟩) 1 1, .slice (some ⟨8, 0, none⟩) 3 3, .slice (some ⟨9, 0, none⟩) 2 2]⟩, iP 0], 10,
   gC ++ [(5, .cells true 0 [iP 10, iP 10, iP 10, iP 11, iP 12, iP 12]),
    (6, .cells true 0 [iP 1, iP 0, iP 1, iP 0, iP 1, iP 1, iP 1, iP 0, iP 0, iP 0, iP 1, iP 0]),
    (7, .cells true 0 [iP 0, iP 0, iP 30, iP 0]),
    (8, .cells true 0 [iP 0, iP 2, iP 3]),
    (9, .cells true 0 [iP 0, iP 1, iP 1, iP 1, iP 3, iP 1])],
   [],
   .tuple ⟨[.slice none 0 0, iP 102]⟩⟩
theorem pc2_ok : pc2.okS EE.G = true := by kernel_rfl
theorem pc2_run : evT EE pbxT 1000000000 (.call pc2.f pc2.args) pc2.heap (keptK pc2) = some (.bool true) := by kernel_rfl
theorem pc2_h : pc2.holds EE := ent_run envOk pbxT_holds _ _ pc2_ok pc2_run
-- decani/practice.May, 131243 steps
noncomputable def pc8 : Ent :=
  ⟨11, [.agg ⟨[iP 4, iP 5, iP 3, iP 0, iP 1, iP 2, iP 1, iP 1, .slice none 0 0, iP 2, .slice none 0 0, .slice (some ⟨5, 0, none⟩) 3 3, iP 3, iP 3, iP 4, iP 5, iP 4, iP 4, .slice (some ⟨6, 0, none⟩) 4 4, .slice none 0 0, .slice none 0 0, .slice (some ⟨7, 0, none⟩) 3 3, .slice (some ⟨8, 0, none⟩) 2 2]⟩, .slice (some ⟨9, 0, none⟩) 2 2], 10,
   gC ++ [(5, .cells true 0 [iP 10, iP 10, iP 10, iP 11, iP 12, iP 12]),
    (6, .cells true 0 [iP 1, iP 0, iP 1, iP 0, iP 1, iP 1, iP 1, iP 0, iP 0, iP 0, iP 1, iP 0]),
    (7, .cells true 0 [iP 0, iP 2, iP 3]),
    (8, .cells true 0 [iP 0, iP 1, iP 1, iP 1, iP 3, iP 1]),
    (9, .cells true 0 [iP 0, iP 9])],
   [],
   .tuple ⟨[.bool true, iP 0]⟩⟩
theorem pc8_ok : pc8.okS EE.G = true := by kernel_rfl
theorem pc8_run : evT EE pbxT 1000000000 (.call pc8.f pc8.args) pc8.heap (keptK pc8) = some (.bool true) := by kernel_rfl
theorem pc8_h : pc8.holds EE := ent_run envOk pbxT_holds _ _ pc8_ok pc8_run
-- decani/practice.May, 115152 steps
noncomputable def pc14 : Ent :=
  ⟨11, [.agg ⟨[iP 4, iP 5, iP 3, iP 0, iP 1, iP 2, iP 1, iP 1, .slice none 0 0, iP 2, .slice none 0 0, .slice (some ⟨5, 0, none⟩) 3 3, iP 3, iP 3, iP 4, iP 5, iP 4, iP 4, .slice (some ⟨6, 0, none⟩) 4 4, .slice none 0 0, .slice none 0 0, .slice (some ⟨7, 0, none⟩) 3 3, .slice (some ⟨8, 0, none⟩) 2 2]⟩, .slice (some ⟨9, 0, none⟩) 3 3], 10,
   gC ++ [(5, .cells true 0 [iP 10, iP 10, iP 10, iP 11, iP 12, iP 12]),
    (6, .cells true 0 [iP 1, iP 0, iP 1, iP 0, iP 1, iP 1, iP 1, iP 0, iP 0, iP 0, iP 1, iP 0]),
    (7, .cells true 0 [iP 0, iP 2, iP 3]),
    (8, .cells true 0 [iP 0, iP 1, iP 1, iP 1, iP 3, iP 1]),
    (9, .cells true 0 [iP 0, iP 1, iP 9])],
   [],
   .tuple ⟨[.bool false, iP 0]⟩⟩
theorem pc14_ok : pc14.okS EE.G = true := by kernel_rfl
theorem pc14_run : evT EE pbxT 1000000000 (.call pc14.f pc14.args) pc14.heap (keptK pc14) = some (.bool true) := by kernel_rfl
theorem pc14_h : pc14.holds EE := ent_run envOk pbxT_holds _ _ pc14_ok pc14_run
-- decani/practice.Kept, 115352 steps
noncomputable def pc20 : Ent :=
  ⟨10, [.agg ⟨[iP 4, iP 5, iP 3, iP 0, iP 1, iP 2, iP 1, iP 1, .slice none 0 0, iP 2, .slice none 0 0, .slice (some ⟨5, 0, none⟩) 3 3, iP 3, iP 3, iP 4, iP 5, iP 4, iP 4, .slice (some ⟨6, 0, none⟩) 4 4, .slice none 0 0, .slice none 0 0, .slice (some ⟨7, 0, none⟩) 3 3, .slice (some ⟨8, 0, none⟩) 2 2]⟩, iP 0], 9,
   gC ++ [(5, .cells true 0 [iP 10, iP 10, iP 10, iP 11, iP 12, iP 12]),
    (6, .cells true 0 [iP 1, iP 0, iP 1, iP 0, iP 1, iP 1, iP 1, iP 0, iP 0, iP 0, iP 1, iP 0]),
    (7, .cells true 0 [iP 0, iP 2, iP 3]),
    (8, .cells true 0 [iP 0, iP 1, iP 1, iP 1, iP 3, iP 1])],
   [.cells true 2 [iP 0]],
   .tuple ⟨[.slice (some ⟨9, 0, none⟩) 1 18446744073709551616, iP 0]⟩⟩
theorem pc20_ok : pc20.okS EE.G = true := by kernel_rfl
theorem pc20_run : evT EE pbxT 1000000000 (.call pc20.f pc20.args) pc20.heap (keptK pc20) = some (.bool true) := by kernel_rfl
theorem pc20_h : pc20.holds EE := ent_run envOk pbxT_holds _ _ pc20_ok pc20_run
-- decani/practice.Plan, 280697 steps
noncomputable def pc26 : Ent :=
  ⟨14, [.agg ⟨[iP 4, iP 5, iP 3, iP 0, iP 1, iP 2, iP 1, iP 1, .slice none 0 0, iP 2, .slice none 0 0, .slice (some ⟨5, 0, none⟩) 3 3, iP 3, iP 3, iP 4, iP 5, iP 4, iP 4, .slice (some ⟨6, 0, none⟩) 4 4, .slice none 0 0, .slice none 0 0, .slice (some ⟨7, 0, none⟩) 3 3, .slice (some ⟨8, 0, none⟩) 2 2]⟩], 9,
   gC ++ [(5, .cells true 0 [iP 10, iP 10, iP 10, iP 11, iP 12, iP 12]),
    (6, .cells true 0 [iP 1, iP 0, iP 1, iP 0, iP 1, iP 1, iP 1, iP 0, iP 0, iP 0, iP 1, iP 0]),
    (7, .cells true 0 [iP 0, iP 2, iP 3]),
    (8, .cells true 0 [iP 0, iP 1, iP 1, iP 1, iP 3, iP 1])],
   [.cells true 0 [iP 0, iP 1, iP 9]],
   .tuple ⟨[.slice (some ⟨9, 0, none⟩) 2 2, iP 0]⟩⟩
theorem pc26_ok : pc26.okS EE.G = true := by kernel_rfl
theorem pc26_run : evT EE pbxT 1000000000 (.call pc26.f pc26.args) pc26.heap (keptK pc26) = some (.bool true) := by kernel_rfl
theorem pc26_h : pc26.holds EE := ent_run envOk pbxT_holds _ _ pc26_ok pc26_run
-- decani/practice.Alone, 141845 steps
noncomputable def pc32 : Ent :=
  ⟨13, [.agg ⟨[iP 4, iP 5, iP 3, iP 0, iP 1, iP 2, iP 1, iP 1, .slice none 0 0, iP 2, .slice none 0 0, .slice (some ⟨5, 0, none⟩) 3 3, iP 3, iP 3, iP 4, iP 5, iP 4, iP 4, .slice (some ⟨6, 0, none⟩) 4 4, .slice none 0 0, .slice none 0 0, .slice (some ⟨7, 0, none⟩) 3 3, .slice (some ⟨8, 0, none⟩) 2 2]⟩, iP 0], 9,
   gC ++ [(5, .cells true 0 [iP 10, iP 10, iP 10, iP 11, iP 12, iP 12]),
    (6, .cells true 0 [iP 1, iP 0, iP 1, iP 0, iP 1, iP 1, iP 1, iP 0, iP 0, iP 0, iP 1, iP 0]),
    (7, .cells true 0 [iP 0, iP 2, iP 3]),
    (8, .cells true 0 [iP 0, iP 1, iP 2, iP 1, iP 3, iP 1])],
   [.cells true 2 [iP 0]],
   .tuple ⟨[.slice (some ⟨9, 0, none⟩) 1 18446744073709551616, iP 0]⟩⟩
theorem pc32_ok : pc32.okS EE.G = true := by kernel_rfl
theorem pc32_run : evT EE pbxT 1000000000 (.call pc32.f pc32.args) pc32.heap (keptK pc32) = some (.bool true) := by kernel_rfl
theorem pc32_h : pc32.holds EE := ent_run envOk pbxT_holds _ _ pc32_ok pc32_run
-- decani/practice.Alone, 3164 steps
noncomputable def pc38 : Ent :=
  ⟨13, [.agg ⟨[iP 4, iP 5, iP 3, iP 0, iP 1, iP 2, iP 1, iP 1, .slice none 0 0, iP 2, .slice (some ⟨5, 0, none⟩) 2 2, .slice (some ⟨6, 0, none⟩) 3 3, iP 3, iP 3, iP 4, iP 5, iP 4, iP 4, .slice (some ⟨7, 0, none⟩) 4 4, .slice none 0 0, .slice none 0 0, .slice (some ⟨8, 0, none⟩) 3 3, .slice (some ⟨9, 0, none⟩) 2 2]⟩, iP 2], 10,
   gC ++ [(5, .cells true 0 [iP 0, iP 1, .bool true, iP 2, iP 2, .bool true]),
    (6, .cells true 0 [iP 10, iP 10, iP 10, iP 11, iP 12, iP 12]),
    (7, .cells true 0 [iP 1, iP 0, iP 1, iP 0, iP 1, iP 1, iP 1, iP 0, iP 0, iP 0, iP 1, iP 0]),
    (8, .cells true 0 [iP 0, iP 2, iP 3]),
    (9, .cells true 0 [iP 0, iP 1, iP 1, iP 1, iP 3, iP 1])],
   [],
   .tuple ⟨[.slice none 0 0, iP 101]⟩⟩
theorem pc38_ok : pc38.okS EE.G = true := by kernel_rfl
theorem pc38_run : evT EE pbxT 1000000000 (.call pc38.f pc38.args) pc38.heap (keptK pc38) = some (.bool true) := by kernel_rfl
theorem pc38_h : pc38.holds EE := ent_run envOk pbxT_holds _ _ pc38_ok pc38_run
-- decani/practice.Plan, 2811 steps
noncomputable def pc45 : Ent :=
  ⟨14, [.agg ⟨[iP 4, iP 5, iP 3, iP 0, iP 1, iP 2, iP 1, iP 1, .slice none 0 0, iP 2, .slice none 0 0, .slice (some ⟨5, 0, none⟩) 3 3, iP 3, iP 3, iP 4, iP 5, iP 4, iP 4, .slice (some ⟨6, 0, none⟩) 4 4, .slice none 0 0, .slice none 0 0, .slice (some ⟨7, 0, none⟩) 3 3, .slice (some ⟨8, 0, none⟩) 2 2]⟩], 9,
   gC ++ [(5, .cells true 0 [iP 10, iP 10, iP 10, iP 11, iP 12, iP 12]),
    (6, .cells true 0 [iP 1, iP 0, iP 1, iP 0, iP 1, iP 1, iP 1, iP 0, iP 0, iP 0, iP 1, iP 0]),
    (7, .cells true 0 [iP 0, iP 2, iP 3]),
    (8, .cells true 0 [iP 0, iP 1, iP 1, iP 4, iP 3, iP 1])],
   [],
   .tuple ⟨[.slice none 0 0, iP 100]⟩⟩
theorem pc45_ok : pc45.okS EE.G = true := by kernel_rfl
theorem pc45_run : evT EE pbxT 1000000000 (.call pc45.f pc45.args) pc45.heap (keptK pc45) = some (.bool true) := by kernel_rfl
theorem pc45_h : pc45.holds EE := ent_run envOk pbxT_holds _ _ pc45_ok pc45_run
-- decani/practice.Right, 2778 steps
noncomputable def pc51 : Ent :=
  ⟨9, [.agg ⟨[iP 4, iP 5, iP 3, iP 0, iP 1, iP 2, iP 1, iP 1, .slice none 0 0, iP 2, .slice none 0 0, .slice (some ⟨5, 0, none⟩) 3 3, iP 3, iP 3, iP 4, iP 5, iP 4, iP 4, .slice (some ⟨6, 0, none⟩) 4 4, .slice none 0 0, .slice none 0 0, .slice (some ⟨7, 0, none⟩) 3 3, .slice (some ⟨8, 0, none⟩) 2 2]⟩], 9,
   gC ++ [(5, .cells true 0 [iP 10, iP 10, iP 10, iP 11, iP 12, iP 12]),
    (6, .cells true 0 [iP 1, iP 0, iP 1, iP 0, iP 1, iP 1, iP 1, iP 0, iP 0, iP 0, iP 1, iP 0]),
    (7, .cells true 0 [iP 0, iP 2, iP 3]),
    (8, .cells true 0 [iP 0, iP 1, iP 1, iP 4, iP 3, iP 1])],
   [],
   .tuple ⟨[.bool false, iP 100]⟩⟩
theorem pc51_ok : pc51.okS EE.G = true := by kernel_rfl
theorem pc51_run : evT EE pbxT 1000000000 (.call pc51.f pc51.args) pc51.heap (keptK pc51) = some (.bool true) := by kernel_rfl
theorem pc51_h : pc51.holds EE := ent_run envOk pbxT_holds _ _ pc51_ok pc51_run
-- decani/practice.Plan, 2724 steps
noncomputable def pc57 : Ent :=
  ⟨14, [.agg ⟨[iP 4, iP 5, iP 3, iP 0, iP 1, iP 2, iP 1, iP 1, .slice none 0 0, iP 2, .slice none 0 0, .slice (some ⟨5, 0, none⟩) 3 3, iP 3, iP 3, iP 4, iP 5, iP 4, iP 4, .slice (some ⟨6, 0, none⟩) 4 4, .slice none 0 0, .slice none 0 0, .slice (some ⟨7, 0, none⟩) 3 3, .slice (some ⟨8, 0, none⟩) 2 2]⟩], 9,
   gC ++ [(5, .cells true 0 [iP 10, iP 10, iP 10, iP 11, iP 12, iP 12]),
    (6, .cells true 0 [iP 1, iP 0, iP 1, iP 0, iP 1, iP 1, iP 1, iP 0, iP 0, iP 0, iP 1, iP 0]),
    (7, .cells true 0 [iP 0, iP 2, iP 3]),
    (8, .cells true 0 [iP 0, iP 1, iP 4, iP 1, iP 3, iP 1])],
   [],
   .tuple ⟨[.slice none 0 0, iP 100]⟩⟩
theorem pc57_ok : pc57.okS EE.G = true := by kernel_rfl
theorem pc57_run : evT EE pbxT 1000000000 (.call pc57.f pc57.args) pc57.heap (keptK pc57) = some (.bool true) := by kernel_rfl
theorem pc57_h : pc57.holds EE := ent_run envOk pbxT_holds _ _ pc57_ok pc57_run
-- decani/practice.Keeps, 2578 steps
noncomputable def pc63 : Ent :=
  ⟨12, [.agg ⟨[iP 4, iP 5, iP 3, iP 0, iP 1, iP 2, iP 1, iP 1, .slice none 0 0, iP 2, .slice none 0 0, .slice (some ⟨5, 0, none⟩) 3 3, iP 3, iP 3, iP 4, iP 5, iP 4, iP 4, .slice (some ⟨6, 0, none⟩) 4 4, .slice none 0 0, .slice none 0 0, .slice (some ⟨7, 0, none⟩) 3 3, .slice (some ⟨8, 0, none⟩) 4 4]⟩, .slice none 0 0], 9,
   gC ++ [(5, .cells true 0 [iP 10, iP 10, iP 10, iP 11, iP 12, iP 12]),
    (6, .cells true 0 [iP 1, iP 0, iP 1, iP 0, iP 1, iP 1, iP 1, iP 0, iP 0, iP 0, iP 1, iP 0]),
    (7, .cells true 0 [iP 0, iP 2, iP 3]),
    (8, .cells true 0 [iP 0, iP 0, iP 0, iP 0, iP 0, iP 0, iP 0, iP 0, iP 0, iP 0, iP 0, iP 0])],
   [],
   .tuple ⟨[iP 0, iP 100]⟩⟩
theorem pc63_ok : pc63.okS EE.G = true := by kernel_rfl
theorem pc63_run : evT EE pbxT 1000000000 (.call pc63.f pc63.args) pc63.heap (keptK pc63) = some (.bool true) := by kernel_rfl
theorem pc63_h : pc63.holds EE := ent_run envOk pbxT_holds _ _ pc63_ok pc63_run
-- decani/practice.May, 2445 steps
noncomputable def pc69 : Ent :=
  ⟨11, [.agg ⟨[iP 4, iP 5, iP 3, iP 0, iP 1, iP 2, iP 1, iP 1, .slice none 0 0, iP 2, .slice none 0 0, .slice (some ⟨5, 0, none⟩) 3 3, iP 3, iP 3, iP 4, iP 5, iP 4, iP 4, .slice (some ⟨6, 0, none⟩) 4 4, .slice none 0 0, .slice none 0 0, .slice (some ⟨7, 0, none⟩) 3 3, .slice (some ⟨8, 0, none⟩) 2 2]⟩, .slice none 0 0], 9,
   gC ++ [(5, .cells true 0 [iP 10, iP 10, iP 10, iP 11, iP 12, iP 12]),
    (6, .cells true 0 [iP 1, iP 0, iP 1, iP 0, iP 1, iP 1, iP 1, iP 0, iP 0, iP 0, iP 1, iP 0]),
    (7, .cells true 0 [iP 0, iP 2, iP 4]),
    (8, .cells true 0 [iP 0, iP 1, iP 1, iP 1, iP 3, iP 1])],
   [],
   .tuple ⟨[.bool false, iP 100]⟩⟩
theorem pc69_ok : pc69.okS EE.G = true := by kernel_rfl
theorem pc69_run : evT EE pbxT 1000000000 (.call pc69.f pc69.args) pc69.heap (keptK pc69) = some (.bool true) := by kernel_rfl
theorem pc69_h : pc69.holds EE := ent_run envOk pbxT_holds _ _ pc69_ok pc69_run
-- decani/practice.Alone, 2397 steps
noncomputable def pc75 : Ent :=
  ⟨13, [.agg ⟨[iP 4, iP 5, iP 3, iP 0, iP 1, iP 2, iP 1, iP 1, .slice none 0 0, iP 2, .slice none 0 0, .slice (some ⟨5, 0, none⟩) 3 3, iP 3, iP 3, iP 4, iP 5, iP 4, iP 4, .slice (some ⟨6, 0, none⟩) 4 4, .slice none 0 0, .slice none 0 0, .slice (some ⟨7, 0, none⟩) 3 3, .slice (some ⟨8, 0, none⟩) 2 2]⟩, iN 0], 9,
   gC ++ [(5, .cells true 0 [iP 10, iP 10, iP 10, iP 11, iP 12, iP 12]),
    (6, .cells true 0 [iP 1, iP 0, iP 1, iP 0, iP 1, iP 1, iP 1, iP 0, iP 0, iP 0, iP 1, iP 0]),
    (7, .cells true 0 [iP 0, iP 0, iP 3]),
    (8, .cells true 0 [iP 0, iP 1, iP 1, iP 1, iP 3, iP 1])],
   [],
   .tuple ⟨[.slice none 0 0, iP 100]⟩⟩
theorem pc75_ok : pc75.okS EE.G = true := by kernel_rfl
theorem pc75_run : evT EE pbxT 1000000000 (.call pc75.f pc75.args) pc75.heap (keptK pc75) = some (.bool true) := by kernel_rfl
theorem pc75_h : pc75.holds EE := ent_run envOk pbxT_holds _ _ pc75_ok pc75_run
-- decani/practice.Alone, 2146 steps
noncomputable def pc82 : Ent :=
  ⟨13, [.agg ⟨[iP 4, iP 5, iP 3, iP 0, iP 1, iP 2, iP 1, iP 1, .slice none 0 0, iP 2, .slice none 0 0, .slice (some ⟨5, 0, none⟩) 3 3, iP 3, iP 3, iP 4, iP 5, iP 4, iP 4, .slice (some ⟨6, 0, none⟩) 4 4, .slice none 0 0, .slice none 0 0, .slice (some ⟨7, 0, none⟩) 2 2, .slice (some ⟨8, 0, none⟩) 2 2]⟩, iN 0], 9,
   gC ++ [(5, .cells true 0 [iP 10, iP 10, iP 10, iP 11, iP 12, iP 12]),
    (6, .cells true 0 [iP 1, iP 0, iP 1, iP 0, iP 1, iP 1, iP 1, iP 0, iP 0, iP 0, iP 1, iP 0]),
    (7, .cells true 0 [iP 0, iP 2]),
    (8, .cells true 0 [iP 0, iP 1, iP 1, iP 1, iP 3, iP 1])],
   [],
   .tuple ⟨[.slice none 0 0, iP 100]⟩⟩
theorem pc82_ok : pc82.okS EE.G = true := by kernel_rfl
theorem pc82_run : evT EE pbxT 1000000000 (.call pc82.f pc82.args) pc82.heap (keptK pc82) = some (.bool true) := by kernel_rfl
theorem pc82_h : pc82.holds EE := ent_run envOk pbxT_holds _ _ pc82_ok pc82_run
-- decani/practice.Alone, 2122 steps
noncomputable def pc84 : Ent :=
  ⟨13, [.agg ⟨[iP 4, iP 3, iP 3, iP 0, iP 1, iP 2, iP 1, iP 1, .slice none 0 0, iP 2, .slice none 0 0, .slice (some ⟨5, 0, none⟩) 3 3, iP 3, iP 3, iP 4, iP 5, iP 4, iP 4, .slice (some ⟨6, 0, none⟩) 4 4, .slice none 0 0, .slice none 0 0, .slice (some ⟨7, 0, none⟩) 3 3, .slice (some ⟨8, 0, none⟩) 2 2]⟩, iN 0], 9,
   gC ++ [(5, .cells true 0 [iP 10, iP 10, iP 10, iP 11, iP 12, iP 12]),
    (6, .cells true 0 [iP 1, iP 0, iP 1, iP 0, iP 1, iP 1, iP 1, iP 0, iP 0, iP 0, iP 1, iP 0]),
    (7, .cells true 0 [iP 0, iP 2, iP 3]),
    (8, .cells true 0 [iP 0, iP 1, iP 1, iP 1, iP 3, iP 1])],
   [],
   .tuple ⟨[.slice none 0 0, iP 100]⟩⟩
theorem pc84_ok : pc84.okS EE.G = true := by kernel_rfl
theorem pc84_run : evT EE pbxT 1000000000 (.call pc84.f pc84.args) pc84.heap (keptK pc84) = some (.bool true) := by kernel_rfl
theorem pc84_h : pc84.holds EE := ent_run envOk pbxT_holds _ _ pc84_ok pc84_run
-- decani/practice.Keeps, 2084 steps
noncomputable def pc90 : Ent :=
  ⟨12, [.agg ⟨[iP 4, iP 3, iP 3, iP 0, iP 1, iP 2, iP 1, iP 1, .slice none 0 0, iP 2, .slice none 0 0, .slice (some ⟨5, 0, none⟩) 3 3, iP 3, iP 3, iP 4, iP 5, iP 4, iP 4, .slice (some ⟨6, 0, none⟩) 4 4, .slice none 0 0, .slice none 0 0, .slice (some ⟨7, 0, none⟩) 3 3, .slice (some ⟨8, 0, none⟩) 2 2]⟩, .slice none 0 0], 9,
   gC ++ [(5, .cells true 0 [iP 10, iP 10, iP 10, iP 11, iP 12, iP 12]),
    (6, .cells true 0 [iP 1, iP 0, iP 1, iP 0, iP 1, iP 1, iP 1, iP 0, iP 0, iP 0, iP 1, iP 0]),
    (7, .cells true 0 [iP 0, iP 2, iP 3]),
    (8, .cells true 0 [iP 0, iP 1, iP 1, iP 1, iP 3, iP 1])],
   [],
   .tuple ⟨[iP 0, iP 100]⟩⟩
theorem pc90_ok : pc90.okS EE.G = true := by kernel_rfl
theorem pc90_run : evT EE pbxT 1000000000 (.call pc90.f pc90.args) pc90.heap (keptK pc90) = some (.bool true) := by kernel_rfl
theorem pc90_h : pc90.holds EE := ent_run envOk pbxT_holds _ _ pc90_ok pc90_run
-- decani/practice.Alone, 1221 steps
noncomputable def pc96 : Ent :=
  ⟨13, [.agg ⟨[iP 4, iP 5, iP 3, iP 0, iP 1, iP 2, iP 1, iP 1, .slice none 0 0, iP 2, .slice none 0 0, .slice (some ⟨5, 0, none⟩) 3 3, iP 7, iP 7, iP 4, iP 5, iP 4, iP 4, .slice (some ⟨6, 0, none⟩) 4 4, .slice none 0 0, .slice none 0 0, .slice (some ⟨7, 0, none⟩) 3 3, .slice (some ⟨8, 0, none⟩) 2 2]⟩, iN 0], 9,
   gC ++ [(5, .cells true 0 [iP 10, iP 10, iP 10, iP 11, iP 12, iP 12]),
    (6, .cells true 0 [iP 1, iP 0, iP 1, iP 0, iP 1, iP 1, iP 1, iP 0, iP 0, iP 0, iP 1, iP 0]),
    (7, .cells true 0 [iP 0, iP 2, iP 3]),
    (8, .cells true 0 [iP 0, iP 1, iP 1, iP 1, iP 3, iP 1])],
   [],
   .tuple ⟨[.slice none 0 0, iP 100]⟩⟩
theorem pc96_ok : pc96.okS EE.G = true := by kernel_rfl
theorem pc96_run : evT EE pbxT 1000000000 (.call pc96.f pc96.args) pc96.heap (keptK pc96) = some (.bool true) := by kernel_rfl
theorem pc96_h : pc96.holds EE := ent_run envOk pbxT_holds _ _ pc96_ok pc96_run
-- decani/practice.Kept, 321 steps
noncomputable def pc102 : Ent :=
  ⟨10, [.agg ⟨[iP 4, iP 5, iP 3, iP 0, iP 1, iP 2, iP 1, iP 1, .slice none 0 0, iP 4, .slice none 0 0, .slice (some ⟨5, 0, none⟩) 3 3, iP 3, iP 3, iP 4, iP 5, iP 4, iP 4, .slice (some ⟨6, 0, none⟩) 4 4, .slice none 0 0, .slice none 0 0, .slice (some ⟨7, 0, none⟩) 3 3, .slice (some ⟨8, 0, none⟩) 2 2]⟩, iN 0], 9,
   gC ++ [(5, .cells true 0 [iP 10, iP 10, iP 10, iP 11, iP 12, iP 12]),
    (6, .cells true 0 [iP 1, iP 0, iP 1, iP 0, iP 1, iP 1, iP 1, iP 0, iP 0, iP 0, iP 1, iP 0]),
    (7, .cells true 0 [iP 0, iP 2, iP 3]),
    (8, .cells true 0 [iP 0, iP 1, iP 1, iP 1, iP 3, iP 1])],
   [],
   .tuple ⟨[.slice none 0 0, iP 100]⟩⟩
theorem pc102_ok : pc102.okS EE.G = true := by kernel_rfl
theorem pc102_run : evT EE pbxT 1000000000 (.call pc102.f pc102.args) pc102.heap (keptK pc102) = some (.bool true) := by kernel_rfl
theorem pc102_h : pc102.holds EE := ent_run envOk pbxT_holds _ _ pc102_ok pc102_run
-- decani/practice.Never, 282 steps
noncomputable def pc107 : Ent :=
  ⟨15, [.agg ⟨[iP 4, iP 5, iP 3, iP 0, iP 1, iP 2, iP 1, iP 1, .slice none 0 0, iP 4, .slice none 0 0, .slice (some ⟨5, 0, none⟩) 3 3, iP 3, iP 3, iP 4, iP 5, iP 4, iP 4, .slice (some ⟨6, 0, none⟩) 4 4, .slice none 0 0, .slice none 0 0, .slice (some ⟨7, 0, none⟩) 3 3, .slice (some ⟨8, 0, none⟩) 2 2]⟩], 9,
   gC ++ [(5, .cells true 0 [iP 10, iP 10, iP 10, iP 11, iP 12, iP 12]),
    (6, .cells true 0 [iP 1, iP 0, iP 1, iP 0, iP 1, iP 1, iP 1, iP 0, iP 0, iP 0, iP 1, iP 0]),
    (7, .cells true 0 [iP 0, iP 2, iP 3]),
    (8, .cells true 0 [iP 0, iP 1, iP 1, iP 1, iP 3, iP 1])],
   [],
   .tuple ⟨[.slice none 0 0, iP 100]⟩⟩
theorem pc107_ok : pc107.okS EE.G = true := by kernel_rfl
theorem pc107_run : evT EE pbxT 1000000000 (.call pc107.f pc107.args) pc107.heap (keptK pc107) = some (.bool true) := by kernel_rfl
theorem pc107_h : pc107.holds EE := ent_run envOk pbxT_holds _ _ pc107_ok pc107_run
end Go.Proofs.YtejlmnfioifniaaGreatDoor
