/- Known calls, part 5: what single calls hand back, at small heaps, by the kernel's own run of the evaluator. No conditions. -/
import Derived.Test.YtejlmnfioifniaaGreatDoorPBX
set_option linter.all false
namespace Go.Proofs.YtejlmnfioifniaaGreatDoor
open Go.Ai
set_option maxRecDepth 1000000
-- decani/practice.Plan, 259732 steps
noncomputable def pc5 : Ent :=
  ⟨14, [.agg ⟨[iP 4, iP 5, iP 3, iP 0, iP 1, iP 2, iP 1, iP 1, .slice none 0 0, iP 2, .slice none 0 0, .slice (some ⟨5, 0, none⟩) 3 3, iP 3, iP 3, iP 4, iP 5, iP 4, iP 4, .slice (some ⟨6, 0, none⟩) 4 4, .slice none 0 0, .slice none 0 0, .slice (some ⟨7, 0, none⟩) 3 3, .slice (some ⟨8, 0, none⟩) 2 2]⟩], 9,
   gC ++ [(5, .cells true 0 [iP 2, iP 2, iP 10, iP 11, iP 12, iP 12]),
    (6, .cells true 0 [iP 1, iP 0, iP 1, iP 0, iP 1, iP 1, iP 1, iP 0, iP 0, iP 0, iP 1, iP 0]),
    (7, .cells true 0 [iP 0, iP 2, iP 3]),
    (8, .cells true 0 [iP 0, iP 1, iP 1, iP 1, iP 3, iP 1])],
   [],
   .tuple ⟨[.slice none 0 0, iP 4]⟩⟩
theorem pc5_ok : pc5.okS EE.G = true := by kernel_rfl
theorem pc5_run : evT EE pbxT 1000000000 (.call pc5.f pc5.args) pc5.heap (keptK pc5) = some (.bool true) := by kernel_rfl
theorem pc5_h : pc5.holds EE := ent_run envOk pbxT_holds _ _ pc5_ok pc5_run
-- decani/practice.May, 115657 steps
noncomputable def pc11 : Ent :=
  ⟨11, [.agg ⟨[iP 4, iP 5, iP 3, iP 0, iP 1, iP 2, iP 1, iP 1, .slice none 0 0, iP 2, .slice none 0 0, .slice (some ⟨5, 0, none⟩) 3 3, iP 3, iP 3, iP 4, iP 5, iP 4, iP 4, .slice (some ⟨6, 0, none⟩) 4 4, .slice none 0 0, .slice none 0 0, .slice (some ⟨7, 0, none⟩) 3 3, .slice (some ⟨8, 0, none⟩) 2 2]⟩, .slice (some ⟨9, 0, none⟩) 2 2], 10,
   gC ++ [(5, .cells true 0 [iP 10, iP 10, iP 10, iP 11, iP 12, iP 12]),
    (6, .cells true 0 [iP 1, iP 0, iP 1, iP 0, iP 1, iP 1, iP 1, iP 0, iP 0, iP 0, iP 1, iP 0]),
    (7, .cells true 0 [iP 0, iP 2, iP 3]),
    (8, .cells true 0 [iP 0, iP 1, iP 1, iP 1, iP 3, iP 1]),
    (9, .cells true 0 [iP 0, iP 0])],
   [],
   .tuple ⟨[.bool false, iP 0]⟩⟩
theorem pc11_ok : pc11.okS EE.G = true := by kernel_rfl
theorem pc11_run : evT EE pbxT 1000000000 (.call pc11.f pc11.args) pc11.heap (keptK pc11) = some (.bool true) := by kernel_rfl
theorem pc11_h : pc11.holds EE := ent_run envOk pbxT_holds _ _ pc11_ok pc11_run
-- decani/practice.Keeps, 133952 steps
noncomputable def pc17 : Ent :=
  ⟨12, [.agg ⟨[iP 4, iP 5, iP 3, iP 0, iP 1, iP 2, iP 1, iP 1, .slice none 0 0, iP 2, .slice none 0 0, .slice (some ⟨5, 0, none⟩) 3 3, iP 3, iP 3, iP 4, iP 5, iP 4, iP 4, .slice (some ⟨6, 0, none⟩) 4 4, .slice none 0 0, .slice none 0 0, .slice (some ⟨7, 0, none⟩) 3 3, .slice (some ⟨8, 0, none⟩) 2 2]⟩, .slice (some ⟨9, 0, none⟩) 2 2], 10,
   gC ++ [(5, .cells true 0 [iP 10, iP 10, iP 10, iP 11, iP 12, iP 12]),
    (6, .cells true 0 [iP 1, iP 0, iP 1, iP 0, iP 1, iP 1, iP 1, iP 0, iP 0, iP 0, iP 1, iP 0]),
    (7, .cells true 0 [iP 0, iP 2, iP 3]),
    (8, .cells true 0 [iP 0, iP 1, iP 1, iP 1, iP 3, iP 1]),
    (9, .cells true 0 [iP 0, iP 1])],
   [],
   .tuple ⟨[iP 3, iP 0]⟩⟩
theorem pc17_ok : pc17.okS EE.G = true := by kernel_rfl
theorem pc17_run : evT EE pbxT 1000000000 (.call pc17.f pc17.args) pc17.heap (keptK pc17) = some (.bool true) := by kernel_rfl
theorem pc17_h : pc17.holds EE := ent_run envOk pbxT_holds _ _ pc17_ok pc17_run
-- decani/practice.Kept, 124804 steps
noncomputable def pc23 : Ent :=
  ⟨10, [.agg ⟨[iP 4, iP 5, iP 3, iP 0, iP 1, iP 2, iP 1, iP 1, .slice none 0 0, iP 2, .slice (some ⟨5, 0, none⟩) 1 1, .slice (some ⟨6, 0, none⟩) 3 3, iP 3, iP 3, iP 4, iP 5, iP 4, iP 4, .slice (some ⟨7, 0, none⟩) 4 4, .slice none 0 0, .slice none 0 0, .slice (some ⟨8, 0, none⟩) 3 3, .slice (some ⟨9, 0, none⟩) 2 2]⟩, iP 2], 10,
   gC ++ [(5, .cells true 0 [iP 0, iP 1, .bool true]),
    (6, .cells true 0 [iP 10, iP 10, iP 10, iP 11, iP 12, iP 12]),
    (7, .cells true 0 [iP 1, iP 0, iP 1, iP 0, iP 1, iP 1, iP 1, iP 0, iP 0, iP 0, iP 1, iP 0]),
    (8, .cells true 0 [iP 0, iP 2, iP 3]),
    (9, .cells true 0 [iP 0, iP 1, iP 1, iP 1, iP 3, iP 1])],
   [.cells true 2 [iP 0, iP 1]],
   .tuple ⟨[.slice (some ⟨10, 0, none⟩) 2 18446744073709551616, iP 0]⟩⟩
theorem pc23_ok : pc23.okS EE.G = true := by kernel_rfl
theorem pc23_run : evT EE pbxT 1000000000 (.call pc23.f pc23.args) pc23.heap (keptK pc23) = some (.bool true) := by kernel_rfl
theorem pc23_h : pc23.holds EE := ent_run envOk pbxT_holds _ _ pc23_ok pc23_run
-- decani/practice.Right, 12920 steps
noncomputable def pc29 : Ent :=
  ⟨9, [.agg ⟨[iP 4, iP 5, iP 3, iP 0, iP 1, iP 2, iP 1, iP 1, .slice none 0 0, iP 2, .slice (some ⟨5, 0, none⟩) 2 2, .slice (some ⟨6, 0, none⟩) 3 3, iP 3, iP 3, iP 4, iP 5, iP 4, iP 4, .slice (some ⟨7, 0, none⟩) 4 4, .slice none 0 0, .slice none 0 0, .slice (some ⟨8, 0, none⟩) 3 3, .slice (some ⟨9, 0, none⟩) 2 2]⟩], 10,
   gC ++ [(5, .cells true 0 [iP 0, iP 1, .bool true, iP 2, iP 2, .bool true]),
    (6, .cells true 0 [iP 10, iP 10, iP 10, iP 11, iP 12, iP 12]),
    (7, .cells true 0 [iP 1, iP 0, iP 1, iP 0, iP 1, iP 1, iP 1, iP 0, iP 0, iP 0, iP 1, iP 0]),
    (8, .cells true 0 [iP 0, iP 2, iP 3]),
    (9, .cells true 0 [iP 0, iP 1, iP 1, iP 1, iP 3, iP 1])],
   [],
   .tuple ⟨[.bool false, iP 0]⟩⟩
theorem pc29_ok : pc29.okS EE.G = true := by kernel_rfl
theorem pc29_run : evT EE pbxT 1000000000 (.call pc29.f pc29.args) pc29.heap (keptK pc29) = some (.bool true) := by kernel_rfl
theorem pc29_h : pc29.holds EE := ent_run envOk pbxT_holds _ _ pc29_ok pc29_run
-- decani/practice.Never, 171284 steps
noncomputable def pc35 : Ent :=
  ⟨15, [.agg ⟨[iP 4, iP 5, iP 3, iP 0, iP 1, iP 2, iP 1, iP 1, .slice none 0 0, iP 2, .slice none 0 0, .slice (some ⟨5, 0, none⟩) 3 3, iP 3, iP 3, iP 4, iP 5, iP 4, iP 4, .slice (some ⟨6, 0, none⟩) 4 4, .slice none 0 0, .slice none 0 0, .slice (some ⟨7, 0, none⟩) 3 3, .slice (some ⟨8, 0, none⟩) 2 2]⟩], 9,
   gC ++ [(5, .cells true 0 [iP 10, iP 10, iP 10, iP 11, iP 12, iP 12]),
    (6, .cells true 0 [iP 1, iP 0, iP 1, iP 0, iP 1, iP 1, iP 1, iP 0, iP 0, iP 0, iP 1, iP 0]),
    (7, .cells true 0 [iP 0, iP 2, iP 3]),
    (8, .cells true 0 [iP 0, iP 1, iP 1, iP 2, iP 3, iP 1])],
   [.cells true 2 [iP 1]],
   .tuple ⟨[.slice (some ⟨9, 0, none⟩) 1 18446744073709551616, iP 0]⟩⟩
theorem pc35_ok : pc35.okS EE.G = true := by kernel_rfl
theorem pc35_run : evT EE pbxT 1000000000 (.call pc35.f pc35.args) pc35.heap (keptK pc35) = some (.bool true) := by kernel_rfl
theorem pc35_h : pc35.holds EE := ent_run envOk pbxT_holds _ _ pc35_ok pc35_run
-- decani/practice.Alone, 2849 steps
noncomputable def pc41 : Ent :=
  ⟨13, [.agg ⟨[iP 4, iP 5, iP 3, iP 0, iP 1, iP 2, iP 1, iP 1, .slice none 0 0, iP 2, .slice none 0 0, .slice (some ⟨5, 0, none⟩) 3 3, iP 3, iP 3, iP 4, iP 5, iP 4, iP 4, .slice (some ⟨6, 0, none⟩) 4 4, .slice none 0 0, .slice none 0 0, .slice (some ⟨7, 0, none⟩) 3 3, .slice (some ⟨8, 0, none⟩) 2 2]⟩, iN 0], 9,
   gC ++ [(5, .cells true 0 [iP 10, iP 10, iP 10, iP 11, iP 12, iP 12]),
    (6, .cells true 0 [iP 1, iP 0, iP 1, iP 0, iP 1, iP 1, iP 1, iP 0, iP 0, iP 0, iP 1, iP 0]),
    (7, .cells true 0 [iP 0, iP 2, iP 3]),
    (8, .cells true 0 [iP 0, iP 1, iP 1, iP 4, iP 3, iP 1])],
   [],
   .tuple ⟨[.slice none 0 0, iP 100]⟩⟩
theorem pc41_ok : pc41.okS EE.G = true := by kernel_rfl
theorem pc41_run : evT EE pbxT 1000000000 (.call pc41.f pc41.args) pc41.heap (keptK pc41) = some (.bool true) := by kernel_rfl
theorem pc41_h : pc41.holds EE := ent_run envOk pbxT_holds _ _ pc41_ok pc41_run
-- decani/practice.Alone, 2849 steps
noncomputable def pc42 : Ent :=
  ⟨13, [.agg ⟨[iP 4, iP 5, iP 3, iP 0, iP 1, iP 2, iP 1, iP 1, .slice none 0 0, iP 2, .slice none 0 0, .slice (some ⟨5, 0, none⟩) 3 3, iP 3, iP 3, iP 4, iP 5, iP 4, iP 4, .slice (some ⟨6, 0, none⟩) 4 4, .slice none 0 0, .slice none 0 0, .slice (some ⟨7, 0, none⟩) 3 3, .slice (some ⟨8, 0, none⟩) 2 2]⟩, iN 0], 9,
   gC ++ [(5, .cells true 0 [iP 10, iP 10, iP 10, iP 11, iP 12, iP 12]),
    (6, .cells true 0 [iP 1, iP 0, iP 1, iP 0, iP 1, iP 1, iP 1, iP 0, iP 0, iP 0, iP 1, iP 0]),
    (7, .cells true 0 [iP 0, iP 2, iP 3]),
    (8, .cells true 0 [iP 0, iP 1, iP 1, iN 0, iP 3, iP 1])],
   [],
   .tuple ⟨[.slice none 0 0, iP 100]⟩⟩
theorem pc42_ok : pc42.okS EE.G = true := by kernel_rfl
theorem pc42_run : evT EE pbxT 1000000000 (.call pc42.f pc42.args) pc42.heap (keptK pc42) = some (.bool true) := by kernel_rfl
theorem pc42_h : pc42.holds EE := ent_run envOk pbxT_holds _ _ pc42_ok pc42_run
-- decani/practice.Plan, 2811 steps
noncomputable def pc49 : Ent :=
  ⟨14, [.agg ⟨[iP 4, iP 5, iP 3, iP 0, iP 1, iP 2, iP 1, iP 1, .slice none 0 0, iP 2, .slice none 0 0, .slice (some ⟨5, 0, none⟩) 3 3, iP 3, iP 3, iP 4, iP 5, iP 4, iP 4, .slice (some ⟨6, 0, none⟩) 4 4, .slice none 0 0, .slice none 0 0, .slice (some ⟨7, 0, none⟩) 3 3, .slice (some ⟨8, 0, none⟩) 2 2]⟩], 9,
   gC ++ [(5, .cells true 0 [iP 10, iP 10, iP 10, iP 11, iP 12, iP 12]),
    (6, .cells true 0 [iP 1, iP 0, iP 1, iP 0, iP 1, iP 1, iP 1, iP 0, iP 0, iP 0, iP 1, iP 0]),
    (7, .cells true 0 [iP 0, iP 2, iP 3]),
    (8, .cells true 0 [iP 0, iP 1, iP 1, iN 0, iP 3, iP 1])],
   [],
   .tuple ⟨[.slice none 0 0, iP 100]⟩⟩
theorem pc49_ok : pc49.okS EE.G = true := by kernel_rfl
theorem pc49_run : evT EE pbxT 1000000000 (.call pc49.f pc49.args) pc49.heap (keptK pc49) = some (.bool true) := by kernel_rfl
theorem pc49_h : pc49.holds EE := ent_run envOk pbxT_holds _ _ pc49_ok pc49_run
-- decani/practice.May, 2724 steps
noncomputable def pc55 : Ent :=
  ⟨11, [.agg ⟨[iP 4, iP 5, iP 3, iP 0, iP 1, iP 2, iP 1, iP 1, .slice none 0 0, iP 2, .slice none 0 0, .slice (some ⟨5, 0, none⟩) 3 3, iP 3, iP 3, iP 4, iP 5, iP 4, iP 4, .slice (some ⟨6, 0, none⟩) 4 4, .slice none 0 0, .slice none 0 0, .slice (some ⟨7, 0, none⟩) 3 3, .slice (some ⟨8, 0, none⟩) 2 2]⟩, .slice none 0 0], 9,
   gC ++ [(5, .cells true 0 [iP 10, iP 10, iP 10, iP 11, iP 12, iP 12]),
    (6, .cells true 0 [iP 1, iP 0, iP 1, iP 0, iP 1, iP 1, iP 1, iP 0, iP 0, iP 0, iP 1, iP 0]),
    (7, .cells true 0 [iP 0, iP 2, iP 3]),
    (8, .cells true 0 [iP 0, iP 1, iP 4, iP 1, iP 3, iP 1])],
   [],
   .tuple ⟨[.bool false, iP 100]⟩⟩
theorem pc55_ok : pc55.okS EE.G = true := by kernel_rfl
theorem pc55_run : evT EE pbxT 1000000000 (.call pc55.f pc55.args) pc55.heap (keptK pc55) = some (.bool true) := by kernel_rfl
theorem pc55_h : pc55.holds EE := ent_run envOk pbxT_holds _ _ pc55_ok pc55_run
-- decani/practice.Right, 2691 steps
noncomputable def pc59 : Ent :=
  ⟨9, [.agg ⟨[iP 4, iP 5, iP 3, iP 0, iP 1, iP 2, iP 1, iP 1, .slice none 0 0, iP 2, .slice none 0 0, .slice (some ⟨5, 0, none⟩) 3 3, iP 3, iP 3, iP 4, iP 5, iP 4, iP 4, .slice (some ⟨6, 0, none⟩) 4 4, .slice none 0 0, .slice none 0 0, .slice (some ⟨7, 0, none⟩) 3 3, .slice (some ⟨8, 0, none⟩) 2 2]⟩], 9,
   gC ++ [(5, .cells true 0 [iP 10, iP 10, iP 10, iP 11, iP 12, iP 12]),
    (6, .cells true 0 [iP 1, iP 0, iP 1, iP 0, iP 1, iP 1, iP 1, iP 0, iP 0, iP 0, iP 1, iP 0]),
    (7, .cells true 0 [iP 0, iP 2, iP 3]),
    (8, .cells true 0 [iP 0, iP 1, iP 4, iP 1, iP 3, iP 1])],
   [],
   .tuple ⟨[.bool false, iP 100]⟩⟩
theorem pc59_ok : pc59.okS EE.G = true := by kernel_rfl
theorem pc59_run : evT EE pbxT 1000000000 (.call pc59.f pc59.args) pc59.heap (keptK pc59) = some (.bool true) := by kernel_rfl
theorem pc59_h : pc59.holds EE := ent_run envOk pbxT_holds _ _ pc59_ok pc59_run
-- decani/practice.Alone, 2483 steps
noncomputable def pc68 : Ent :=
  ⟨13, [.agg ⟨[iP 4, iP 5, iP 3, iP 0, iP 1, iP 2, iP 1, iP 1, .slice none 0 0, iP 2, .slice none 0 0, .slice (some ⟨5, 0, none⟩) 3 3, iP 3, iP 3, iP 4, iP 5, iP 4, iP 4, .slice (some ⟨6, 0, none⟩) 4 4, .slice none 0 0, .slice none 0 0, .slice (some ⟨7, 0, none⟩) 3 3, .slice (some ⟨8, 0, none⟩) 2 2]⟩, iN 0], 9,
   gC ++ [(5, .cells true 0 [iP 10, iP 10, iP 10, iP 11, iP 12, iP 12]),
    (6, .cells true 0 [iP 1, iP 0, iP 1, iP 0, iP 1, iP 1, iP 1, iP 0, iP 0, iP 0, iP 1, iP 0]),
    (7, .cells true 0 [iP 0, iP 2, iP 4]),
    (8, .cells true 0 [iP 0, iP 1, iP 1, iP 1, iP 3, iP 1])],
   [],
   .tuple ⟨[.slice none 0 0, iP 100]⟩⟩
theorem pc68_ok : pc68.okS EE.G = true := by kernel_rfl
theorem pc68_run : evT EE pbxT 1000000000 (.call pc68.f pc68.args) pc68.heap (keptK pc68) = some (.bool true) := by kernel_rfl
theorem pc68_h : pc68.holds EE := ent_run envOk pbxT_holds _ _ pc68_ok pc68_run
-- decani/practice.Kept, 2398 steps
noncomputable def pc74 : Ent :=
  ⟨10, [.agg ⟨[iP 4, iP 5, iP 3, iP 0, iP 1, iP 2, iP 1, iP 1, .slice none 0 0, iP 2, .slice none 0 0, .slice (some ⟨5, 0, none⟩) 3 3, iP 3, iP 3, iP 4, iP 5, iP 4, iP 4, .slice (some ⟨6, 0, none⟩) 4 4, .slice none 0 0, .slice none 0 0, .slice (some ⟨7, 0, none⟩) 3 3, .slice (some ⟨8, 0, none⟩) 2 2]⟩, iN 0], 9,
   gC ++ [(5, .cells true 0 [iP 10, iP 10, iP 10, iP 11, iP 12, iP 12]),
    (6, .cells true 0 [iP 1, iP 0, iP 1, iP 0, iP 1, iP 1, iP 1, iP 0, iP 0, iP 0, iP 1, iP 0]),
    (7, .cells true 0 [iP 0, iP 0, iP 3]),
    (8, .cells true 0 [iP 0, iP 1, iP 1, iP 1, iP 3, iP 1])],
   [],
   .tuple ⟨[.slice none 0 0, iP 100]⟩⟩
theorem pc74_ok : pc74.okS EE.G = true := by kernel_rfl
theorem pc74_run : evT EE pbxT 1000000000 (.call pc74.f pc74.args) pc74.heap (keptK pc74) = some (.bool true) := by kernel_rfl
theorem pc74_h : pc74.holds EE := ent_run envOk pbxT_holds _ _ pc74_ok pc74_run
-- decani/practice.Plan, 2359 steps
noncomputable def pc78 : Ent :=
  ⟨14, [.agg ⟨[iP 4, iP 5, iP 3, iP 0, iP 1, iP 2, iP 1, iP 1, .slice none 0 0, iP 2, .slice none 0 0, .slice (some ⟨5, 0, none⟩) 3 3, iP 3, iP 3, iP 4, iP 5, iP 4, iP 4, .slice (some ⟨6, 0, none⟩) 4 4, .slice none 0 0, .slice none 0 0, .slice (some ⟨7, 0, none⟩) 3 3, .slice (some ⟨8, 0, none⟩) 2 2]⟩], 9,
   gC ++ [(5, .cells true 0 [iP 10, iP 10, iP 10, iP 11, iP 12, iP 12]),
    (6, .cells true 0 [iP 1, iP 0, iP 1, iP 0, iP 1, iP 1, iP 1, iP 0, iP 0, iP 0, iP 1, iP 0]),
    (7, .cells true 0 [iP 0, iP 0, iP 3]),
    (8, .cells true 0 [iP 0, iP 1, iP 1, iP 1, iP 3, iP 1])],
   [],
   .tuple ⟨[.slice none 0 0, iP 100]⟩⟩
theorem pc78_ok : pc78.okS EE.G = true := by kernel_rfl
theorem pc78_run : evT EE pbxT 1000000000 (.call pc78.f pc78.args) pc78.heap (keptK pc78) = some (.bool true) := by kernel_rfl
theorem pc78_h : pc78.holds EE := ent_run envOk pbxT_holds _ _ pc78_ok pc78_run
-- decani/practice.Plan, 2108 steps
noncomputable def pc87 : Ent :=
  ⟨14, [.agg ⟨[iP 4, iP 5, iP 3, iP 0, iP 1, iP 2, iP 1, iP 1, .slice none 0 0, iP 2, .slice none 0 0, .slice (some ⟨5, 0, none⟩) 3 3, iP 3, iP 3, iP 4, iP 5, iP 4, iP 4, .slice (some ⟨6, 0, none⟩) 4 4, .slice none 0 0, .slice none 0 0, .slice (some ⟨7, 0, none⟩) 2 2, .slice (some ⟨8, 0, none⟩) 2 2]⟩], 9,
   gC ++ [(5, .cells true 0 [iP 10, iP 10, iP 10, iP 11, iP 12, iP 12]),
    (6, .cells true 0 [iP 1, iP 0, iP 1, iP 0, iP 1, iP 1, iP 1, iP 0, iP 0, iP 0, iP 1, iP 0]),
    (7, .cells true 0 [iP 0, iP 2]),
    (8, .cells true 0 [iP 0, iP 1, iP 1, iP 1, iP 3, iP 1])],
   [],
   .tuple ⟨[.slice none 0 0, iP 100]⟩⟩
theorem pc87_ok : pc87.okS EE.G = true := by kernel_rfl
theorem pc87_run : evT EE pbxT 1000000000 (.call pc87.f pc87.args) pc87.heap (keptK pc87) = some (.bool true) := by kernel_rfl
theorem pc87_h : pc87.holds EE := ent_run envOk pbxT_holds _ _ pc87_ok pc87_run
-- decani/practice.Right, 2075 steps
noncomputable def pc93 : Ent :=
  ⟨9, [.agg ⟨[iP 4, iP 5, iP 3, iP 0, iP 1, iP 2, iP 1, iP 1, .slice none 0 0, iP 2, .slice none 0 0, .slice (some ⟨5, 0, none⟩) 3 3, iP 3, iP 3, iP 4, iP 5, iP 4, iP 4, .slice (some ⟨6, 0, none⟩) 4 4, .slice none 0 0, .slice none 0 0, .slice (some ⟨7, 0, none⟩) 2 2, .slice (some ⟨8, 0, none⟩) 2 2]⟩], 9,
   gC ++ [(5, .cells true 0 [iP 10, iP 10, iP 10, iP 11, iP 12, iP 12]),
    (6, .cells true 0 [iP 1, iP 0, iP 1, iP 0, iP 1, iP 1, iP 1, iP 0, iP 0, iP 0, iP 1, iP 0]),
    (7, .cells true 0 [iP 0, iP 2]),
    (8, .cells true 0 [iP 0, iP 1, iP 1, iP 1, iP 3, iP 1])],
   [],
   .tuple ⟨[.bool false, iP 100]⟩⟩
theorem pc93_ok : pc93.okS EE.G = true := by kernel_rfl
theorem pc93_run : evT EE pbxT 1000000000 (.call pc93.f pc93.args) pc93.heap (keptK pc93) = some (.bool true) := by kernel_rfl
theorem pc93_h : pc93.holds EE := ent_run envOk pbxT_holds _ _ pc93_ok pc93_run
-- decani/practice.Plan, 1183 steps
noncomputable def pc99 : Ent :=
  ⟨14, [.agg ⟨[iP 4, iP 5, iP 3, iP 0, iP 1, iP 2, iP 1, iP 1, .slice none 0 0, iP 2, .slice none 0 0, .slice (some ⟨5, 0, none⟩) 3 3, iP 7, iP 7, iP 4, iP 5, iP 4, iP 4, .slice (some ⟨6, 0, none⟩) 4 4, .slice none 0 0, .slice none 0 0, .slice (some ⟨7, 0, none⟩) 3 3, .slice (some ⟨8, 0, none⟩) 2 2]⟩], 9,
   gC ++ [(5, .cells true 0 [iP 10, iP 10, iP 10, iP 11, iP 12, iP 12]),
    (6, .cells true 0 [iP 1, iP 0, iP 1, iP 0, iP 1, iP 1, iP 1, iP 0, iP 0, iP 0, iP 1, iP 0]),
    (7, .cells true 0 [iP 0, iP 2, iP 3]),
    (8, .cells true 0 [iP 0, iP 1, iP 1, iP 1, iP 3, iP 1])],
   [],
   .tuple ⟨[.slice none 0 0, iP 100]⟩⟩
theorem pc99_ok : pc99.okS EE.G = true := by kernel_rfl
theorem pc99_run : evT EE pbxT 1000000000 (.call pc99.f pc99.args) pc99.heap (keptK pc99) = some (.bool true) := by kernel_rfl
theorem pc99_h : pc99.holds EE := ent_run envOk pbxT_holds _ _ pc99_ok pc99_run
-- decani/practice.Keeps, 282 steps
noncomputable def pc105 : Ent :=
  ⟨12, [.agg ⟨[iP 4, iP 5, iP 3, iP 0, iP 1, iP 2, iP 1, iP 1, .slice none 0 0, iP 4, .slice none 0 0, .slice (some ⟨5, 0, none⟩) 3 3, iP 3, iP 3, iP 4, iP 5, iP 4, iP 4, .slice (some ⟨6, 0, none⟩) 4 4, .slice none 0 0, .slice none 0 0, .slice (some ⟨7, 0, none⟩) 3 3, .slice (some ⟨8, 0, none⟩) 2 2]⟩, .slice none 0 0], 9,
   gC ++ [(5, .cells true 0 [iP 10, iP 10, iP 10, iP 11, iP 12, iP 12]),
    (6, .cells true 0 [iP 1, iP 0, iP 1, iP 0, iP 1, iP 1, iP 1, iP 0, iP 0, iP 0, iP 1, iP 0]),
    (7, .cells true 0 [iP 0, iP 2, iP 3]),
    (8, .cells true 0 [iP 0, iP 1, iP 1, iP 1, iP 3, iP 1])],
   [],
   .tuple ⟨[iP 0, iP 100]⟩⟩
theorem pc105_ok : pc105.okS EE.G = true := by kernel_rfl
theorem pc105_run : evT EE pbxT 1000000000 (.call pc105.f pc105.args) pc105.heap (keptK pc105) = some (.bool true) := by kernel_rfl
theorem pc105_h : pc105.holds EE := ent_run envOk pbxT_holds _ _ pc105_ok pc105_run
-- decani/practice.Kept, 206 steps
noncomputable def pc109 : Ent :=
  ⟨10, [.agg ⟨[iP 0, iP 0, iP 0, iP 0, iP 0, iP 0, iP 0, iP 0, .slice none 0 0, iP 0, .slice none 0 0, .slice none 0 0, iP 0, iP 0, iP 0, iP 0, iP 0, iP 0, .slice none 0 0, .slice none 0 0, .slice none 0 0, .slice none 0 0, .slice none 0 0]⟩, iN 0], 5,
   gC,
   [],
   .tuple ⟨[.slice none 0 0, iP 100]⟩⟩
theorem pc109_ok : pc109.okS EE.G = true := by kernel_rfl
theorem pc109_run : evT EE pbxT 1000000000 (.call pc109.f pc109.args) pc109.heap (keptK pc109) = some (.bool true) := by kernel_rfl
theorem pc109_h : pc109.holds EE := ent_run envOk pbxT_holds _ _ pc109_ok pc109_run
-- decani/practice.Plan, 167 steps
noncomputable def pc113 : Ent :=
  ⟨14, [.agg ⟨[iP 0, iP 0, iP 0, iP 0, iP 0, iP 0, iP 0, iP 0, .slice none 0 0, iP 0, .slice none 0 0, .slice none 0 0, iP 0, iP 0, iP 0, iP 0, iP 0, iP 0, .slice none 0 0, .slice none 0 0, .slice none 0 0, .slice none 0 0, .slice none 0 0]⟩], 5,
   gC,
   [],
   .tuple ⟨[.slice none 0 0, iP 100]⟩⟩
theorem pc113_ok : pc113.okS EE.G = true := by kernel_rfl
theorem pc113_run : evT EE pbxT 1000000000 (.call pc113.f pc113.args) pc113.heap (keptK pc113) = some (.bool true) := by kernel_rfl
theorem pc113_h : pc113.holds EE := ent_run envOk pbxT_holds _ _ pc113_ok pc113_run
end Go.Proofs.YtejlmnfioifniaaGreatDoor
