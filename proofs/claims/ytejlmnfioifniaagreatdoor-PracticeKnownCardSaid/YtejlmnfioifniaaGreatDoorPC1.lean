/- Known calls, part 1: what single calls hand back, at small heaps, by the kernel's own run of the evaluator. No conditions. -/
import Derived.Test.YtejlmnfioifniaaGreatDoorPBX
set_option linter.all false
namespace Go.Proofs.YtejlmnfioifniaaGreatDoor
open Go.Ai
set_option maxRecDepth 1000000
-- decani/practice.Keeps, 12967 steps
noncomputable def pc1 : Ent :=
  ⟨12, [.agg ⟨[iP 4, iP 5, iP 3, iP 0, iP 1, iP 2, iP 1, iP 1, .slice none 0 0, iP 2, .slice (some ⟨5, 0, none⟩) 2 2, .slice (some ⟨6, 0, none⟩) 3 3, iP 3, iP 3, iP 4, iP 5, iP 4, iP 4, .slice (some ⟨7, 0, none⟩) 4 4, .slice none 0 0, .slice none 0 0, .slice (some ⟨8, 0, none⟩) 3 3, .slice (some ⟨9, 0, none⟩) 2 2]⟩, .slice (some ⟨10, 0, none⟩) 2 2], 11,
   gC ++ [(5, .cells true 0 [iP 0, iP 1, .bool true, iP 2, iP 2, .bool true]),
    (6, .cells true 0 [iP 10, iP 10, iP 10, iP 11, iP 12, iP 12]),
    (7, .cells true 0 [iP 1, iP 0, iP 1, iP 0, iP 1, iP 1, iP 1, iP 0, iP 0, iP 0, iP 1, iP 0]),
    (8, .cells true 0 [iP 0, iP 2, iP 3]),
    (9, .cells true 0 [iP 0, iP 1, iP 1, iP 1, iP 3, iP 1]),
    (10, .cells true 0 [iP 1, iP 2])],
   [],
   .tuple ⟨[iP 0, iP 102]⟩⟩
theorem pc1_ok : pc1.okS EE.G = true := by kernel_rfl
theorem pc1_run : evT EE pbxT 1000000000 (.call pc1.f pc1.args) pc1.heap (keptK pc1) = some (.bool true) := by kernel_rfl
theorem pc1_h : pc1.holds EE := ent_run envOk pbxT_holds _ _ pc1_ok pc1_run
-- decani/practice.May, 132703 steps
noncomputable def pc7 : Ent :=
  ⟨11, [.agg ⟨[iP 4, iP 5, iP 3, iP 0, iP 1, iP 2, iP 1, iP 1, .slice none 0 0, iP 2, .slice none 0 0, .slice (some ⟨5, 0, none⟩) 3 3, iP 3, iP 3, iP 4, iP 5, iP 4, iP 4, .slice (some ⟨6, 0, none⟩) 4 4, .slice none 0 0, .slice none 0 0, .slice (some ⟨7, 0, none⟩) 3 3, .slice (some ⟨8, 0, none⟩) 2 2]⟩, .slice (some ⟨9, 0, none⟩) 2 2], 10,
   gC ++ [(5, .cells true 0 [iP 10, iP 10, iP 10, iP 11, iP 12, iP 12]),
    (6, .cells true 0 [iP 1, iP 0, iP 1, iP 0, iP 1, iP 1, iP 1, iP 0, iP 0, iP 0, iP 1, iP 0]),
    (7, .cells true 0 [iP 0, iP 2, iP 3]),
    (8, .cells true 0 [iP 0, iP 1, iP 1, iP 1, iP 3, iP 1]),
    (9, .cells true 0 [iP 0, iP 1])],
   [],
   .tuple ⟨[.bool true, iP 0]⟩⟩
theorem pc7_ok : pc7.okS EE.G = true := by kernel_rfl
theorem pc7_run : evT EE pbxT 1000000000 (.call pc7.f pc7.args) pc7.heap (keptK pc7) = some (.bool true) := by kernel_rfl
theorem pc7_h : pc7.holds EE := ent_run envOk pbxT_holds _ _ pc7_ok pc7_run
-- decani/practice.May, 115152 steps
noncomputable def pc13 : Ent :=
  ⟨11, [.agg ⟨[iP 4, iP 5, iP 3, iP 0, iP 1, iP 2, iP 1, iP 1, .slice none 0 0, iP 2, .slice none 0 0, .slice (some ⟨5, 0, none⟩) 3 3, iP 3, iP 3, iP 4, iP 5, iP 4, iP 4, .slice (some ⟨6, 0, none⟩) 4 4, .slice none 0 0, .slice none 0 0, .slice (some ⟨7, 0, none⟩) 3 3, .slice (some ⟨8, 0, none⟩) 2 2]⟩, .slice (some ⟨9, 0, none⟩) 1 1], 10,
   gC ++ [(5, .cells true 0 [iP 10, iP 10, iP 10, iP 11, iP 12, iP 12]),
    (6, .cells true 0 [iP 1, iP 0, iP 1, iP 0, iP 1, iP 1, iP 1, iP 0, iP 0, iP 0, iP 1, iP 0]),
    (7, .cells true 0 [iP 0, iP 2, iP 3]),
    (8, .cells true 0 [iP 0, iP 1, iP 1, iP 1, iP 3, iP 1]),
    (9, .cells true 0 [iP 0])],
   [],
   .tuple ⟨[.bool false, iP 0]⟩⟩
theorem pc13_ok : pc13.okS EE.G = true := by kernel_rfl
theorem pc13_run : evT EE pbxT 1000000000 (.call pc13.f pc13.args) pc13.heap (keptK pc13) = some (.bool true) := by kernel_rfl
theorem pc13_h : pc13.holds EE := ent_run envOk pbxT_holds _ _ pc13_ok pc13_run
-- decani/practice.Keeps, 131268 steps
noncomputable def pc19 : Ent :=
  ⟨12, [.agg ⟨[iP 4, iP 5, iP 3, iP 0, iP 1, iP 2, iP 1, iP 1, .slice none 0 0, iP 2, .slice none 0 0, .slice (some ⟨5, 0, none⟩) 3 3, iP 3, iP 3, iP 4, iP 5, iP 4, iP 4, .slice (some ⟨6, 0, none⟩) 4 4, .slice none 0 0, .slice none 0 0, .slice (some ⟨7, 0, none⟩) 3 3, .slice (some ⟨8, 0, none⟩) 2 2]⟩, .slice (some ⟨9, 0, none⟩) 2 2], 10,
   gC ++ [(5, .cells true 0 [iP 10, iP 10, iP 10, iP 11, iP 12, iP 12]),
    (6, .cells true 0 [iP 1, iP 0, iP 1, iP 0, iP 1, iP 1, iP 1, iP 0, iP 0, iP 0, iP 1, iP 0]),
    (7, .cells true 0 [iP 0, iP 2, iP 3]),
    (8, .cells true 0 [iP 0, iP 1, iP 1, iP 1, iP 3, iP 1]),
    (9, .cells true 0 [iP 9, iP 9])],
   [],
   .tuple ⟨[iP 0, iP 0]⟩⟩
theorem pc19_ok : pc19.okS EE.G = true := by kernel_rfl
theorem pc19_run : evT EE pbxT 1000000000 (.call pc19.f pc19.args) pc19.heap (keptK pc19) = some (.bool true) := by kernel_rfl
theorem pc19_h : pc19.holds EE := ent_run envOk pbxT_holds _ _ pc19_ok pc19_run
-- decani/practice.Alone, 154051 steps
noncomputable def pc25 : Ent :=
  ⟨13, [.agg ⟨[iP 4, iP 5, iP 3, iP 0, iP 1, iP 2, iP 1, iP 1, .slice none 0 0, iP 2, .slice none 0 0, .slice (some ⟨5, 0, none⟩) 3 3, iP 3, iP 3, iP 4, iP 5, iP 4, iP 4, .slice (some ⟨6, 0, none⟩) 4 4, .slice none 0 0, .slice none 0 0, .slice (some ⟨7, 0, none⟩) 3 3, .slice (some ⟨8, 0, none⟩) 2 2]⟩, iP 1], 9,
   gC ++ [(5, .cells true 0 [iP 10, iP 10, iP 10, iP 11, iP 12, iP 12]),
    (6, .cells true 0 [iP 1, iP 0, iP 1, iP 0, iP 1, iP 1, iP 1, iP 0, iP 0, iP 0, iP 1, iP 0]),
    (7, .cells true 0 [iP 0, iP 2, iP 3]),
    (8, .cells true 0 [iP 0, iP 1, iP 1, iP 1, iP 3, iP 1])],
   [.cells true 2 [iP 1]],
   .tuple ⟨[.slice (some ⟨9, 0, none⟩) 1 18446744073709551616, iP 0]⟩⟩
theorem pc25_ok : pc25.okS EE.G = true := by kernel_rfl
theorem pc25_run : evT EE pbxT 1000000000 (.call pc25.f pc25.args) pc25.heap (keptK pc25) = some (.bool true) := by kernel_rfl
theorem pc25_h : pc25.holds EE := ent_run envOk pbxT_holds _ _ pc25_ok pc25_run
-- decani/practice.Keeps, 143403 steps
noncomputable def pc31 : Ent :=
  ⟨12, [.agg ⟨[iP 4, iP 5, iP 3, iP 0, iP 1, iP 2, iP 1, iP 1, .slice none 0 0, iP 2, .slice (some ⟨5, 0, none⟩) 1 1, .slice (some ⟨6, 0, none⟩) 3 3, iP 3, iP 3, iP 4, iP 5, iP 4, iP 4, .slice (some ⟨7, 0, none⟩) 4 4, .slice none 0 0, .slice none 0 0, .slice (some ⟨8, 0, none⟩) 3 3, .slice (some ⟨9, 0, none⟩) 2 2]⟩, .slice (some ⟨10, 0, none⟩) 2 2], 11,
   gC ++ [(5, .cells true 0 [iP 0, iP 1, .bool true]),
    (6, .cells true 0 [iP 10, iP 10, iP 10, iP 11, iP 12, iP 12]),
    (7, .cells true 0 [iP 1, iP 0, iP 1, iP 0, iP 1, iP 1, iP 1, iP 0, iP 0, iP 0, iP 1, iP 0]),
    (8, .cells true 0 [iP 0, iP 2, iP 3]),
    (9, .cells true 0 [iP 0, iP 1, iP 1, iP 1, iP 3, iP 1]),
    (10, .cells true 0 [iP 0, iP 2])],
   [],
   .tuple ⟨[iP 3, iP 0]⟩⟩
theorem pc31_ok : pc31.okS EE.G = true := by kernel_rfl
theorem pc31_run : evT EE pbxT 1000000000 (.call pc31.f pc31.args) pc31.heap (keptK pc31) = some (.bool true) := by kernel_rfl
theorem pc31_h : pc31.holds EE := ent_run envOk pbxT_holds _ _ pc31_ok pc31_run
-- decani/practice.Kept, 3165 steps
noncomputable def pc37 : Ent :=
  ⟨10, [.agg ⟨[iP 4, iP 5, iP 3, iP 0, iP 1, iP 2, iP 1, iP 1, .slice none 0 0, iP 2, .slice (some ⟨5, 0, none⟩) 2 2, .slice (some ⟨6, 0, none⟩) 3 3, iP 3, iP 3, iP 4, iP 5, iP 4, iP 4, .slice (some ⟨7, 0, none⟩) 4 4, .slice none 0 0, .slice none 0 0, .slice (some ⟨8, 0, none⟩) 3 3, .slice (some ⟨9, 0, none⟩) 2 2]⟩, iP 4], 10,
   gC ++ [(5, .cells true 0 [iP 0, iP 1, .bool true, iP 2, iP 2, .bool true]),
    (6, .cells true 0 [iP 10, iP 10, iP 10, iP 11, iP 12, iP 12]),
    (7, .cells true 0 [iP 1, iP 0, iP 1, iP 0, iP 1, iP 1, iP 1, iP 0, iP 0, iP 0, iP 1, iP 0]),
    (8, .cells true 0 [iP 0, iP 2, iP 3]),
    (9, .cells true 0 [iP 0, iP 1, iP 1, iP 1, iP 3, iP 1])],
   [],
   .tuple ⟨[.slice none 0 0, iP 101]⟩⟩
theorem pc37_ok : pc37.okS EE.G = true := by kernel_rfl
theorem pc37_run : evT EE pbxT 1000000000 (.call pc37.f pc37.args) pc37.heap (keptK pc37) = some (.bool true) := by kernel_rfl
theorem pc37_h : pc37.holds EE := ent_run envOk pbxT_holds _ _ pc37_ok pc37_run
-- decani/practice.Never, 2811 steps
noncomputable def pc46 : Ent :=
  ⟨15, [.agg ⟨[iP 4, iP 5, iP 3, iP 0, iP 1, iP 2, iP 1, iP 1, .slice none 0 0, iP 2, .slice none 0 0, .slice (some ⟨5, 0, none⟩) 3 3, iP 3, iP 3, iP 4, iP 5, iP 4, iP 4, .slice (some ⟨6, 0, none⟩) 4 4, .slice none 0 0, .slice none 0 0, .slice (some ⟨7, 0, none⟩) 3 3, .slice (some ⟨8, 0, none⟩) 2 2]⟩], 9,
   gC ++ [(5, .cells true 0 [iP 10, iP 10, iP 10, iP 11, iP 12, iP 12]),
    (6, .cells true 0 [iP 1, iP 0, iP 1, iP 0, iP 1, iP 1, iP 1, iP 0, iP 0, iP 0, iP 1, iP 0]),
    (7, .cells true 0 [iP 0, iP 2, iP 3]),
    (8, .cells true 0 [iP 0, iP 1, iP 1, iP 4, iP 3, iP 1])],
   [],
   .tuple ⟨[.slice none 0 0, iP 100]⟩⟩
theorem pc46_ok : pc46.okS EE.G = true := by kernel_rfl
theorem pc46_run : evT EE pbxT 1000000000 (.call pc46.f pc46.args) pc46.heap (keptK pc46) = some (.bool true) := by kernel_rfl
theorem pc46_h : pc46.holds EE := ent_run envOk pbxT_holds _ _ pc46_ok pc46_run
-- decani/practice.Right, 2778 steps
noncomputable def pc52 : Ent :=
  ⟨9, [.agg ⟨[iP 4, iP 5, iP 3, iP 0, iP 1, iP 2, iP 1, iP 1, .slice none 0 0, iP 2, .slice none 0 0, .slice (some ⟨5, 0, none⟩) 3 3, iP 3, iP 3, iP 4, iP 5, iP 4, iP 4, .slice (some ⟨6, 0, none⟩) 4 4, .slice none 0 0, .slice none 0 0, .slice (some ⟨7, 0, none⟩) 3 3, .slice (some ⟨8, 0, none⟩) 2 2]⟩], 9,
   gC ++ [(5, .cells true 0 [iP 10, iP 10, iP 10, iP 11, iP 12, iP 12]),
    (6, .cells true 0 [iP 1, iP 0, iP 1, iP 0, iP 1, iP 1, iP 1, iP 0, iP 0, iP 0, iP 1, iP 0]),
    (7, .cells true 0 [iP 0, iP 2, iP 3]),
    (8, .cells true 0 [iP 0, iP 1, iP 1, iN 0, iP 3, iP 1])],
   [],
   .tuple ⟨[.bool false, iP 100]⟩⟩
theorem pc52_ok : pc52.okS EE.G = true := by kernel_rfl
theorem pc52_run : evT EE pbxT 1000000000 (.call pc52.f pc52.args) pc52.heap (keptK pc52) = some (.bool true) := by kernel_rfl
theorem pc52_h : pc52.holds EE := ent_run envOk pbxT_holds _ _ pc52_ok pc52_run
-- decani/practice.Never, 2724 steps
noncomputable def pc58 : Ent :=
  ⟨15, [.agg ⟨[iP 4, iP 5, iP 3, iP 0, iP 1, iP 2, iP 1, iP 1, .slice none 0 0, iP 2, .slice none 0 0, .slice (some ⟨5, 0, none⟩) 3 3, iP 3, iP 3, iP 4, iP 5, iP 4, iP 4, .slice (some ⟨6, 0, none⟩) 4 4, .slice none 0 0, .slice none 0 0, .slice (some ⟨7, 0, none⟩) 3 3, .slice (some ⟨8, 0, none⟩) 2 2]⟩], 9,
   gC ++ [(5, .cells true 0 [iP 10, iP 10, iP 10, iP 11, iP 12, iP 12]),
    (6, .cells true 0 [iP 1, iP 0, iP 1, iP 0, iP 1, iP 1, iP 1, iP 0, iP 0, iP 0, iP 1, iP 0]),
    (7, .cells true 0 [iP 0, iP 2, iP 3]),
    (8, .cells true 0 [iP 0, iP 1, iP 4, iP 1, iP 3, iP 1])],
   [],
   .tuple ⟨[.slice none 0 0, iP 100]⟩⟩
theorem pc58_ok : pc58.okS EE.G = true := by kernel_rfl
theorem pc58_run : evT EE pbxT 1000000000 (.call pc58.f pc58.args) pc58.heap (keptK pc58) = some (.bool true) := by kernel_rfl
theorem pc58_h : pc58.holds EE := ent_run envOk pbxT_holds _ _ pc58_ok pc58_run
-- decani/practice.Plan, 2578 steps
noncomputable def pc64 : Ent :=
  ⟨14, [.agg ⟨[iP 4, iP 5, iP 3, iP 0, iP 1, iP 2, iP 1, iP 1, .slice none 0 0, iP 2, .slice none 0 0, .slice (some ⟨5, 0, none⟩) 3 3, iP 3, iP 3, iP 4, iP 5, iP 4, iP 4, .slice (some ⟨6, 0, none⟩) 4 4, .slice none 0 0, .slice none 0 0, .slice (some ⟨7, 0, none⟩) 3 3, .slice (some ⟨8, 0, none⟩) 4 4]⟩], 9,
   gC ++ [(5, .cells true 0 [iP 10, iP 10, iP 10, iP 11, iP 12, iP 12]),
    (6, .cells true 0 [iP 1, iP 0, iP 1, iP 0, iP 1, iP 1, iP 1, iP 0, iP 0, iP 0, iP 1, iP 0]),
    (7, .cells true 0 [iP 0, iP 2, iP 3]),
    (8, .cells true 0 [iP 0, iP 0, iP 0, iP 0, iP 0, iP 0, iP 0, iP 0, iP 0, iP 0, iP 0, iP 0])],
   [],
   .tuple ⟨[.slice none 0 0, iP 100]⟩⟩
theorem pc64_ok : pc64.okS EE.G = true := by kernel_rfl
theorem pc64_run : evT EE pbxT 1000000000 (.call pc64.f pc64.args) pc64.heap (keptK pc64) = some (.bool true) := by kernel_rfl
theorem pc64_h : pc64.holds EE := ent_run envOk pbxT_holds _ _ pc64_ok pc64_run
-- decani/practice.Keeps, 2445 steps
noncomputable def pc70 : Ent :=
  ⟨12, [.agg ⟨[iP 4, iP 5, iP 3, iP 0, iP 1, iP 2, iP 1, iP 1, .slice none 0 0, iP 2, .slice none 0 0, .slice (some ⟨5, 0, none⟩) 3 3, iP 3, iP 3, iP 4, iP 5, iP 4, iP 4, .slice (some ⟨6, 0, none⟩) 4 4, .slice none 0 0, .slice none 0 0, .slice (some ⟨7, 0, none⟩) 3 3, .slice (some ⟨8, 0, none⟩) 2 2]⟩, .slice none 0 0], 9,
   gC ++ [(5, .cells true 0 [iP 10, iP 10, iP 10, iP 11, iP 12, iP 12]),
    (6, .cells true 0 [iP 1, iP 0, iP 1, iP 0, iP 1, iP 1, iP 1, iP 0, iP 0, iP 0, iP 1, iP 0]),
    (7, .cells true 0 [iP 0, iP 2, iP 4]),
    (8, .cells true 0 [iP 0, iP 1, iP 1, iP 1, iP 3, iP 1])],
   [],
   .tuple ⟨[iP 0, iP 100]⟩⟩
theorem pc70_ok : pc70.okS EE.G = true := by kernel_rfl
theorem pc70_run : evT EE pbxT 1000000000 (.call pc70.f pc70.args) pc70.heap (keptK pc70) = some (.bool true) := by kernel_rfl
theorem pc70_h : pc70.holds EE := ent_run envOk pbxT_holds _ _ pc70_ok pc70_run
-- decani/practice.May, 2359 steps
noncomputable def pc76 : Ent :=
  ⟨11, [.agg ⟨[iP 4, iP 5, iP 3, iP 0, iP 1, iP 2, iP 1, iP 1, .slice none 0 0, iP 2, .slice none 0 0, .slice (some ⟨5, 0, none⟩) 3 3, iP 3, iP 3, iP 4, iP 5, iP 4, iP 4, .slice (some ⟨6, 0, none⟩) 4 4, .slice none 0 0, .slice none 0 0, .slice (some ⟨7, 0, none⟩) 3 3, .slice (some ⟨8, 0, none⟩) 2 2]⟩, .slice none 0 0], 9,
   gC ++ [(5, .cells true 0 [iP 10, iP 10, iP 10, iP 11, iP 12, iP 12]),
    (6, .cells true 0 [iP 1, iP 0, iP 1, iP 0, iP 1, iP 1, iP 1, iP 0, iP 0, iP 0, iP 1, iP 0]),
    (7, .cells true 0 [iP 0, iP 0, iP 3]),
    (8, .cells true 0 [iP 0, iP 1, iP 1, iP 1, iP 3, iP 1])],
   [],
   .tuple ⟨[.bool false, iP 100]⟩⟩
theorem pc76_ok : pc76.okS EE.G = true := by kernel_rfl
theorem pc76_run : evT EE pbxT 1000000000 (.call pc76.f pc76.args) pc76.heap (keptK pc76) = some (.bool true) := by kernel_rfl
theorem pc76_h : pc76.holds EE := ent_run envOk pbxT_holds _ _ pc76_ok pc76_run
-- decani/practice.Kept, 2147 steps
noncomputable def pc81 : Ent :=
  ⟨10, [.agg ⟨[iP 4, iP 5, iP 3, iP 0, iP 1, iP 2, iP 1, iP 1, .slice none 0 0, iP 2, .slice none 0 0, .slice (some ⟨5, 0, none⟩) 3 3, iP 3, iP 3, iP 4, iP 5, iP 4, iP 4, .slice (some ⟨6, 0, none⟩) 4 4, .slice none 0 0, .slice none 0 0, .slice (some ⟨7, 0, none⟩) 2 2, .slice (some ⟨8, 0, none⟩) 2 2]⟩, iN 0], 9,
   gC ++ [(5, .cells true 0 [iP 10, iP 10, iP 10, iP 11, iP 12, iP 12]),
    (6, .cells true 0 [iP 1, iP 0, iP 1, iP 0, iP 1, iP 1, iP 1, iP 0, iP 0, iP 0, iP 1, iP 0]),
    (7, .cells true 0 [iP 0, iP 2]),
    (8, .cells true 0 [iP 0, iP 1, iP 1, iP 1, iP 3, iP 1])],
   [],
   .tuple ⟨[.slice none 0 0, iP 100]⟩⟩
theorem pc81_ok : pc81.okS EE.G = true := by kernel_rfl
theorem pc81_run : evT EE pbxT 1000000000 (.call pc81.f pc81.args) pc81.heap (keptK pc81) = some (.bool true) := by kernel_rfl
theorem pc81_h : pc81.holds EE := ent_run envOk pbxT_holds _ _ pc81_ok pc81_run
-- decani/practice.Kept, 2123 steps
noncomputable def pc83 : Ent :=
  ⟨10, [.agg ⟨[iP 4, iP 3, iP 3, iP 0, iP 1, iP 2, iP 1, iP 1, .slice none 0 0, iP 2, .slice none 0 0, .slice (some ⟨5, 0, none⟩) 3 3, iP 3, iP 3, iP 4, iP 5, iP 4, iP 4, .slice (some ⟨6, 0, none⟩) 4 4, .slice none 0 0, .slice none 0 0, .slice (some ⟨7, 0, none⟩) 3 3, .slice (some ⟨8, 0, none⟩) 2 2]⟩, iN 0], 9,
   gC ++ [(5, .cells true 0 [iP 10, iP 10, iP 10, iP 11, iP 12, iP 12]),
    (6, .cells true 0 [iP 1, iP 0, iP 1, iP 0, iP 1, iP 1, iP 1, iP 0, iP 0, iP 0, iP 1, iP 0]),
    (7, .cells true 0 [iP 0, iP 2, iP 3]),
    (8, .cells true 0 [iP 0, iP 1, iP 1, iP 1, iP 3, iP 1])],
   [],
   .tuple ⟨[.slice none 0 0, iP 100]⟩⟩
theorem pc83_ok : pc83.okS EE.G = true := by kernel_rfl
theorem pc83_run : evT EE pbxT 1000000000 (.call pc83.f pc83.args) pc83.heap (keptK pc83) = some (.bool true) := by kernel_rfl
theorem pc83_h : pc83.holds EE := ent_run envOk pbxT_holds _ _ pc83_ok pc83_run
-- decani/practice.May, 2084 steps
noncomputable def pc89 : Ent :=
  ⟨11, [.agg ⟨[iP 4, iP 3, iP 3, iP 0, iP 1, iP 2, iP 1, iP 1, .slice none 0 0, iP 2, .slice none 0 0, .slice (some ⟨5, 0, none⟩) 3 3, iP 3, iP 3, iP 4, iP 5, iP 4, iP 4, .slice (some ⟨6, 0, none⟩) 4 4, .slice none 0 0, .slice none 0 0, .slice (some ⟨7, 0, none⟩) 3 3, .slice (some ⟨8, 0, none⟩) 2 2]⟩, .slice none 0 0], 9,
   gC ++ [(5, .cells true 0 [iP 10, iP 10, iP 10, iP 11, iP 12, iP 12]),
    (6, .cells true 0 [iP 1, iP 0, iP 1, iP 0, iP 1, iP 1, iP 1, iP 0, iP 0, iP 0, iP 1, iP 0]),
    (7, .cells true 0 [iP 0, iP 2, iP 3]),
    (8, .cells true 0 [iP 0, iP 1, iP 1, iP 1, iP 3, iP 1])],
   [],
   .tuple ⟨[.bool false, iP 100]⟩⟩
theorem pc89_ok : pc89.okS EE.G = true := by kernel_rfl
theorem pc89_run : evT EE pbxT 1000000000 (.call pc89.f pc89.args) pc89.heap (keptK pc89) = some (.bool true) := by kernel_rfl
theorem pc89_h : pc89.holds EE := ent_run envOk pbxT_holds _ _ pc89_ok pc89_run
-- decani/practice.Kept, 1222 steps
noncomputable def pc95 : Ent :=
  ⟨10, [.agg ⟨[iP 4, iP 5, iP 3, iP 0, iP 1, iP 2, iP 1, iP 1, .slice none 0 0, iP 2, .slice none 0 0, .slice (some ⟨5, 0, none⟩) 3 3, iP 7, iP 7, iP 4, iP 5, iP 4, iP 4, .slice (some ⟨6, 0, none⟩) 4 4, .slice none 0 0, .slice none 0 0, .slice (some ⟨7, 0, none⟩) 3 3, .slice (some ⟨8, 0, none⟩) 2 2]⟩, iN 0], 9,
   gC ++ [(5, .cells true 0 [iP 10, iP 10, iP 10, iP 11, iP 12, iP 12]),
    (6, .cells true 0 [iP 1, iP 0, iP 1, iP 0, iP 1, iP 1, iP 1, iP 0, iP 0, iP 0, iP 1, iP 0]),
    (7, .cells true 0 [iP 0, iP 2, iP 3]),
    (8, .cells true 0 [iP 0, iP 1, iP 1, iP 1, iP 3, iP 1])],
   [],
   .tuple ⟨[.slice none 0 0, iP 100]⟩⟩
theorem pc95_ok : pc95.okS EE.G = true := by kernel_rfl
theorem pc95_run : evT EE pbxT 1000000000 (.call pc95.f pc95.args) pc95.heap (keptK pc95) = some (.bool true) := by kernel_rfl
theorem pc95_h : pc95.holds EE := ent_run envOk pbxT_holds _ _ pc95_ok pc95_run
-- decani/practice.Right, 1150 steps
noncomputable def pc101 : Ent :=
  ⟨9, [.agg ⟨[iP 4, iP 5, iP 3, iP 0, iP 1, iP 2, iP 1, iP 1, .slice none 0 0, iP 2, .slice none 0 0, .slice (some ⟨5, 0, none⟩) 3 3, iP 7, iP 7, iP 4, iP 5, iP 4, iP 4, .slice (some ⟨6, 0, none⟩) 4 4, .slice none 0 0, .slice none 0 0, .slice (some ⟨7, 0, none⟩) 3 3, .slice (some ⟨8, 0, none⟩) 2 2]⟩], 9,
   gC ++ [(5, .cells true 0 [iP 10, iP 10, iP 10, iP 11, iP 12, iP 12]),
    (6, .cells true 0 [iP 1, iP 0, iP 1, iP 0, iP 1, iP 1, iP 1, iP 0, iP 0, iP 0, iP 1, iP 0]),
    (7, .cells true 0 [iP 0, iP 2, iP 3]),
    (8, .cells true 0 [iP 0, iP 1, iP 1, iP 1, iP 3, iP 1])],
   [],
   .tuple ⟨[.bool false, iP 100]⟩⟩
theorem pc101_ok : pc101.okS EE.G = true := by kernel_rfl
theorem pc101_run : evT EE pbxT 1000000000 (.call pc101.f pc101.args) pc101.heap (keptK pc101) = some (.bool true) := by kernel_rfl
theorem pc101_h : pc101.holds EE := ent_run envOk pbxT_holds _ _ pc101_ok pc101_run
end Go.Proofs.YtejlmnfioifniaaGreatDoor
