/- Known calls, part 4: what single calls hand back, at small heaps, by the kernel's own run of the evaluator. No conditions. -/
import Derived.Test.YtejlmnfioifniaaGreatDoorPBX
set_option linter.all false
namespace Go.Proofs.YtejlmnfioifniaaGreatDoor
open Go.Ai
set_option maxRecDepth 1000000
-- decani/practice.Never, 9670 steps
noncomputable def pc4 : Ent :=
  ⟨15, [.agg ⟨[iP 4, iP 5, iP 3, iP 0, iP 1, iP 2, iP 1, iP 1, .slice none 0 0, iP 2, .slice none 0 0, .slice (some ⟨5, 0, none⟩) 3 3, iP 3, iP 3, iP 4, iP 5, iP 4, iP 4, .slice (some ⟨6, 0, none⟩) 4 4, .slice none 0 0, .slice (some ⟨7, 0, none⟩) 1 1, .slice (some ⟨8, 0, none⟩) 3 3, .slice (some ⟨9, 0, none⟩) 2 2]⟩], 10,
   gC ++ [(5, .cells true 0 [iP 10, iP 10, iP 10, iP 11, iP 12, iP 12]),
    (6, .cells true 0 [iP 1, iP 0, iP 1, iP 0, iP 1, iP 1, iP 1, iP 0, iP 0, iP 0, iP 1, iP 0]),
    (7, .cells true 0 [iP 0, iP 0, iP 30, iP 0]),
    (8, .cells true 0 [iP 0, iP 2, iP 3]),
    (9, .cells true 0 [iP 0, iP 1, iP 1, iP 1, iP 3, iP 1])],
   [],
   .tuple ⟨[.slice none 0 0, iP 102]⟩⟩
theorem pc4_ok : pc4.okS EE.G = true := by kernel_rfl
theorem pc4_run : evT EE pbxT 1000000000 (.call pc4.f pc4.args) pc4.heap (keptK pc4) = some (.bool true) := by kernel_rfl
theorem pc4_h : pc4.holds EE := ent_run envOk pbxT_holds _ _ pc4_ok pc4_run
-- decani/practice.May, 127223 steps
noncomputable def pc10 : Ent :=
  ⟨11, [.agg ⟨[iP 4, iP 5, iP 3, iP 0, iP 1, iP 2, iP 1, iP 1, .slice none 0 0, iP 2, .slice none 0 0, .slice (some ⟨5, 0, none⟩) 3 3, iP 3, iP 3, iP 4, iP 5, iP 4, iP 4, .slice (some ⟨6, 0, none⟩) 4 4, .slice none 0 0, .slice none 0 0, .slice (some ⟨7, 0, none⟩) 3 3, .slice (some ⟨8, 0, none⟩) 2 2]⟩, .slice (some ⟨9, 0, none⟩) 2 2], 10,
   gC ++ [(5, .cells true 0 [iP 10, iP 10, iP 10, iP 11, iP 12, iP 12]),
    (6, .cells true 0 [iP 1, iP 0, iP 1, iP 0, iP 1, iP 1, iP 1, iP 0, iP 0, iP 0, iP 1, iP 0]),
    (7, .cells true 0 [iP 0, iP 2, iP 3]),
    (8, .cells true 0 [iP 0, iP 1, iP 1, iP 1, iP 3, iP 1]),
    (9, .cells true 0 [iP 1, iP 2])],
   [],
   .tuple ⟨[.bool false, iP 0]⟩⟩
theorem pc10_ok : pc10.okS EE.G = true := by kernel_rfl
theorem pc10_run : evT EE pbxT 1000000000 (.call pc10.f pc10.args) pc10.heap (keptK pc10) = some (.bool true) := by kernel_rfl
theorem pc10_h : pc10.holds EE := ent_run envOk pbxT_holds _ _ pc10_ok pc10_run
-- decani/practice.May, 115657 steps
noncomputable def pc16 : Ent :=
  ⟨11, [.agg ⟨[iP 4, iP 5, iP 3, iP 0, iP 1, iP 2, iP 1, iP 1, .slice none 0 0, iP 2, .slice none 0 0, .slice (some ⟨5, 0, none⟩) 3 3, iP 3, iP 3, iP 4, iP 5, iP 4, iP 4, .slice (some ⟨6, 0, none⟩) 4 4, .slice none 0 0, .slice none 0 0, .slice (some ⟨7, 0, none⟩) 3 3, .slice (some ⟨8, 0, none⟩) 2 2]⟩, .slice (some ⟨9, 0, none⟩) 2 2], 10,
   gC ++ [(5, .cells true 0 [iP 10, iP 10, iP 10, iP 11, iP 12, iP 12]),
    (6, .cells true 0 [iP 1, iP 0, iP 1, iP 0, iP 1, iP 1, iP 1, iP 0, iP 0, iP 0, iP 1, iP 0]),
    (7, .cells true 0 [iP 0, iP 2, iP 3]),
    (8, .cells true 0 [iP 0, iP 1, iP 1, iP 1, iP 3, iP 1]),
    (9, .cells true 0 [iP 0, iN 0])],
   [],
   .tuple ⟨[.bool false, iP 0]⟩⟩
theorem pc16_ok : pc16.okS EE.G = true := by kernel_rfl
theorem pc16_run : evT EE pbxT 1000000000 (.call pc16.f pc16.args) pc16.heap (keptK pc16) = some (.bool true) := by kernel_rfl
theorem pc16_h : pc16.holds EE := ent_run envOk pbxT_holds _ _ pc16_ok pc16_run
-- decani/practice.Kept, 124798 steps
noncomputable def pc22 : Ent :=
  ⟨10, [.agg ⟨[iP 4, iP 5, iP 3, iP 0, iP 1, iP 2, iP 1, iP 1, .slice none 0 0, iP 2, .slice (some ⟨5, 0, none⟩) 1 1, .slice (some ⟨6, 0, none⟩) 3 3, iP 3, iP 3, iP 4, iP 5, iP 4, iP 4, .slice (some ⟨7, 0, none⟩) 4 4, .slice none 0 0, .slice none 0 0, .slice (some ⟨8, 0, none⟩) 3 3, .slice (some ⟨9, 0, none⟩) 2 2]⟩, iP 1], 10,
   gC ++ [(5, .cells true 0 [iP 0, iP 1, .bool true]),
    (6, .cells true 0 [iP 10, iP 10, iP 10, iP 11, iP 12, iP 12]),
    (7, .cells true 0 [iP 1, iP 0, iP 1, iP 0, iP 1, iP 1, iP 1, iP 0, iP 0, iP 0, iP 1, iP 0]),
    (8, .cells true 0 [iP 0, iP 2, iP 3]),
    (9, .cells true 0 [iP 0, iP 1, iP 1, iP 1, iP 3, iP 1])],
   [.cells true 2 [iP 0]],
   .tuple ⟨[.slice (some ⟨10, 0, none⟩) 1 18446744073709551616, iP 0]⟩⟩
theorem pc22_ok : pc22.okS EE.G = true := by kernel_rfl
theorem pc22_run : evT EE pbxT 1000000000 (.call pc22.f pc22.args) pc22.heap (keptK pc22) = some (.bool true) := by kernel_rfl
theorem pc22_h : pc22.holds EE := ent_run envOk pbxT_holds _ _ pc22_ok pc22_run
-- decani/practice.Keeps, 142864 steps
noncomputable def pc28 : Ent :=
  ⟨12, [.agg ⟨[iP 4, iP 5, iP 3, iP 0, iP 1, iP 2, iP 1, iP 1, .slice none 0 0, iP 2, .slice (some ⟨5, 0, none⟩) 1 1, .slice (some ⟨6, 0, none⟩) 3 3, iP 3, iP 3, iP 4, iP 5, iP 4, iP 4, .slice (some ⟨7, 0, none⟩) 4 4, .slice none 0 0, .slice none 0 0, .slice (some ⟨8, 0, none⟩) 3 3, .slice (some ⟨9, 0, none⟩) 2 2]⟩, .slice (some ⟨10, 0, none⟩) 2 2], 11,
   gC ++ [(5, .cells true 0 [iP 0, iP 1, .bool true]),
    (6, .cells true 0 [iP 10, iP 10, iP 10, iP 11, iP 12, iP 12]),
    (7, .cells true 0 [iP 1, iP 0, iP 1, iP 0, iP 1, iP 1, iP 1, iP 0, iP 0, iP 0, iP 1, iP 0]),
    (8, .cells true 0 [iP 0, iP 2, iP 3]),
    (9, .cells true 0 [iP 0, iP 1, iP 1, iP 1, iP 3, iP 1]),
    (10, .cells true 0 [iP 0, iP 1])],
   [],
   .tuple ⟨[iP 2, iP 0]⟩⟩
theorem pc28_ok : pc28.okS EE.G = true := by kernel_rfl
theorem pc28_run : evT EE pbxT 1000000000 (.call pc28.f pc28.args) pc28.heap (keptK pc28) = some (.bool true) := by kernel_rfl
theorem pc28_h : pc28.holds EE := ent_run envOk pbxT_holds _ _ pc28_ok pc28_run
-- decani/practice.Plan, 318110 steps
noncomputable def pc34 : Ent :=
  ⟨14, [.agg ⟨[iP 4, iP 5, iP 3, iP 0, iP 1, iP 2, iP 1, iP 1, .slice none 0 0, iP 2, .slice (some ⟨5, 0, none⟩) 1 1, .slice (some ⟨6, 0, none⟩) 3 3, iP 3, iP 3, iP 4, iP 5, iP 4, iP 4, .slice (some ⟨7, 0, none⟩) 4 4, .slice none 0 0, .slice none 0 0, .slice (some ⟨8, 0, none⟩) 3 3, .slice (some ⟨9, 0, none⟩) 2 2]⟩], 10,
   gC ++ [(5, .cells true 0 [iP 0, iP 1, .bool true]),
    (6, .cells true 0 [iP 10, iP 10, iP 10, iP 11, iP 12, iP 12]),
    (7, .cells true 0 [iP 1, iP 0, iP 1, iP 0, iP 1, iP 1, iP 1, iP 0, iP 0, iP 0, iP 1, iP 0]),
    (8, .cells true 0 [iP 0, iP 2, iP 3]),
    (9, .cells true 0 [iP 0, iP 1, iP 1, iP 1, iP 3, iP 1])],
   [.cells true 0 [iP 0, iP 1, iP 9]],
   .tuple ⟨[.slice (some ⟨10, 0, none⟩) 2 2, iP 0]⟩⟩
theorem pc34_ok : pc34.okS EE.G = true := by kernel_rfl
theorem pc34_run : evT EE pbxT 1000000000 (.call pc34.f pc34.args) pc34.heap (keptK pc34) = some (.bool true) := by kernel_rfl
theorem pc34_h : pc34.holds EE := ent_run envOk pbxT_holds _ _ pc34_ok pc34_run
-- decani/practice.Kept, 2850 steps
noncomputable def pc40 : Ent :=
  ⟨10, [.agg ⟨[iP 4, iP 5, iP 3, iP 0, iP 1, iP 2, iP 1, iP 1, .slice none 0 0, iP 2, .slice none 0 0, .slice (some ⟨5, 0, none⟩) 3 3, iP 3, iP 3, iP 4, iP 5, iP 4, iP 4, .slice (some ⟨6, 0, none⟩) 4 4, .slice none 0 0, .slice none 0 0, .slice (some ⟨7, 0, none⟩) 3 3, .slice (some ⟨8, 0, none⟩) 2 2]⟩, iN 0], 9,
   gC ++ [(5, .cells true 0 [iP 10, iP 10, iP 10, iP 11, iP 12, iP 12]),
    (6, .cells true 0 [iP 1, iP 0, iP 1, iP 0, iP 1, iP 1, iP 1, iP 0, iP 0, iP 0, iP 1, iP 0]),
    (7, .cells true 0 [iP 0, iP 2, iP 3]),
    (8, .cells true 0 [iP 0, iP 1, iP 1, iN 0, iP 3, iP 1])],
   [],
   .tuple ⟨[.slice none 0 0, iP 100]⟩⟩
theorem pc40_ok : pc40.okS EE.G = true := by kernel_rfl
theorem pc40_run : evT EE pbxT 1000000000 (.call pc40.f pc40.args) pc40.heap (keptK pc40) = some (.bool true) := by kernel_rfl
theorem pc40_h : pc40.holds EE := ent_run envOk pbxT_holds _ _ pc40_ok pc40_run
-- decani/practice.Keeps, 2811 steps
noncomputable def pc44 : Ent :=
  ⟨12, [.agg ⟨[iP 4, iP 5, iP 3, iP 0, iP 1, iP 2, iP 1, iP 1, .slice none 0 0, iP 2, .slice none 0 0, .slice (some ⟨5, 0, none⟩) 3 3, iP 3, iP 3, iP 4, iP 5, iP 4, iP 4, .slice (some ⟨6, 0, none⟩) 4 4, .slice none 0 0, .slice none 0 0, .slice (some ⟨7, 0, none⟩) 3 3, .slice (some ⟨8, 0, none⟩) 2 2]⟩, .slice none 0 0], 9,
   gC ++ [(5, .cells true 0 [iP 10, iP 10, iP 10, iP 11, iP 12, iP 12]),
    (6, .cells true 0 [iP 1, iP 0, iP 1, iP 0, iP 1, iP 1, iP 1, iP 0, iP 0, iP 0, iP 1, iP 0]),
    (7, .cells true 0 [iP 0, iP 2, iP 3]),
    (8, .cells true 0 [iP 0, iP 1, iP 1, iP 4, iP 3, iP 1])],
   [],
   .tuple ⟨[iP 0, iP 100]⟩⟩
theorem pc44_ok : pc44.okS EE.G = true := by kernel_rfl
theorem pc44_run : evT EE pbxT 1000000000 (.call pc44.f pc44.args) pc44.heap (keptK pc44) = some (.bool true) := by kernel_rfl
theorem pc44_h : pc44.holds EE := ent_run envOk pbxT_holds _ _ pc44_ok pc44_run
-- decani/practice.Keeps, 2811 steps
noncomputable def pc48 : Ent :=
  ⟨12, [.agg ⟨[iP 4, iP 5, iP 3, iP 0, iP 1, iP 2, iP 1, iP 1, .slice none 0 0, iP 2, .slice none 0 0, .slice (some ⟨5, 0, none⟩) 3 3, iP 3, iP 3, iP 4, iP 5, iP 4, iP 4, .slice (some ⟨6, 0, none⟩) 4 4, .slice none 0 0, .slice none 0 0, .slice (some ⟨7, 0, none⟩) 3 3, .slice (some ⟨8, 0, none⟩) 2 2]⟩, .slice none 0 0], 9,
   gC ++ [(5, .cells true 0 [iP 10, iP 10, iP 10, iP 11, iP 12, iP 12]),
    (6, .cells true 0 [iP 1, iP 0, iP 1, iP 0, iP 1, iP 1, iP 1, iP 0, iP 0, iP 0, iP 1, iP 0]),
    (7, .cells true 0 [iP 0, iP 2, iP 3]),
    (8, .cells true 0 [iP 0, iP 1, iP 1, iN 0, iP 3, iP 1])],
   [],
   .tuple ⟨[iP 0, iP 100]⟩⟩
theorem pc48_ok : pc48.okS EE.G = true := by kernel_rfl
theorem pc48_run : evT EE pbxT 1000000000 (.call pc48.f pc48.args) pc48.heap (keptK pc48) = some (.bool true) := by kernel_rfl
theorem pc48_h : pc48.holds EE := ent_run envOk pbxT_holds _ _ pc48_ok pc48_run
-- decani/practice.Alone, 2762 steps
noncomputable def pc54 : Ent :=
  ⟨13, [.agg ⟨[iP 4, iP 5, iP 3, iP 0, iP 1, iP 2, iP 1, iP 1, .slice none 0 0, iP 2, .slice none 0 0, .slice (some ⟨5, 0, none⟩) 3 3, iP 3, iP 3, iP 4, iP 5, iP 4, iP 4, .slice (some ⟨6, 0, none⟩) 4 4, .slice none 0 0, .slice none 0 0, .slice (some ⟨7, 0, none⟩) 3 3, .slice (some ⟨8, 0, none⟩) 2 2]⟩, iN 0], 9,
   gC ++ [(5, .cells true 0 [iP 10, iP 10, iP 10, iP 11, iP 12, iP 12]),
    (6, .cells true 0 [iP 1, iP 0, iP 1, iP 0, iP 1, iP 1, iP 1, iP 0, iP 0, iP 0, iP 1, iP 0]),
    (7, .cells true 0 [iP 0, iP 2, iP 3]),
    (8, .cells true 0 [iP 0, iP 1, iP 4, iP 1, iP 3, iP 1])],
   [],
   .tuple ⟨[.slice none 0 0, iP 100]⟩⟩
theorem pc54_ok : pc54.okS EE.G = true := by kernel_rfl
theorem pc54_run : evT EE pbxT 1000000000 (.call pc54.f pc54.args) pc54.heap (keptK pc54) = some (.bool true) := by kernel_rfl
theorem pc54_h : pc54.holds EE := ent_run envOk pbxT_holds _ _ pc54_ok pc54_run
-- decani/practice.Kept, 2617 steps
noncomputable def pc60 : Ent :=
  ⟨10, [.agg ⟨[iP 4, iP 5, iP 3, iP 0, iP 1, iP 2, iP 1, iP 1, .slice none 0 0, iP 2, .slice none 0 0, .slice (some ⟨5, 0, none⟩) 3 3, iP 3, iP 3, iP 4, iP 5, iP 4, iP 4, .slice (some ⟨6, 0, none⟩) 4 4, .slice none 0 0, .slice none 0 0, .slice (some ⟨7, 0, none⟩) 3 3, .slice (some ⟨8, 0, none⟩) 4 4]⟩, iN 0], 9,
   gC ++ [(5, .cells true 0 [iP 10, iP 10, iP 10, iP 11, iP 12, iP 12]),
    (6, .cells true 0 [iP 1, iP 0, iP 1, iP 0, iP 1, iP 1, iP 1, iP 0, iP 0, iP 0, iP 1, iP 0]),
    (7, .cells true 0 [iP 0, iP 2, iP 3]),
    (8, .cells true 0 [iP 0, iP 0, iP 0, iP 0, iP 0, iP 0, iP 0, iP 0, iP 0, iP 0, iP 0, iP 0])],
   [],
   .tuple ⟨[.slice none 0 0, iP 100]⟩⟩
theorem pc60_ok : pc60.okS EE.G = true := by kernel_rfl
theorem pc60_run : evT EE pbxT 1000000000 (.call pc60.f pc60.args) pc60.heap (keptK pc60) = some (.bool true) := by kernel_rfl
theorem pc60_h : pc60.holds EE := ent_run envOk pbxT_holds _ _ pc60_ok pc60_run
-- decani/practice.Kept, 2484 steps
noncomputable def pc67 : Ent :=
  ⟨10, [.agg ⟨[iP 4, iP 5, iP 3, iP 0, iP 1, iP 2, iP 1, iP 1, .slice none 0 0, iP 2, .slice none 0 0, .slice (some ⟨5, 0, none⟩) 3 3, iP 3, iP 3, iP 4, iP 5, iP 4, iP 4, .slice (some ⟨6, 0, none⟩) 4 4, .slice none 0 0, .slice none 0 0, .slice (some ⟨7, 0, none⟩) 3 3, .slice (some ⟨8, 0, none⟩) 2 2]⟩, iN 0], 9,
   gC ++ [(5, .cells true 0 [iP 10, iP 10, iP 10, iP 11, iP 12, iP 12]),
    (6, .cells true 0 [iP 1, iP 0, iP 1, iP 0, iP 1, iP 1, iP 1, iP 0, iP 0, iP 0, iP 1, iP 0]),
    (7, .cells true 0 [iP 0, iP 2, iP 4]),
    (8, .cells true 0 [iP 0, iP 1, iP 1, iP 1, iP 3, iP 1])],
   [],
   .tuple ⟨[.slice none 0 0, iP 100]⟩⟩
theorem pc67_ok : pc67.okS EE.G = true := by kernel_rfl
theorem pc67_run : evT EE pbxT 1000000000 (.call pc67.f pc67.args) pc67.heap (keptK pc67) = some (.bool true) := by kernel_rfl
theorem pc67_h : pc67.holds EE := ent_run envOk pbxT_holds _ _ pc67_ok pc67_run
-- decani/practice.Plan, 2445 steps
noncomputable def pc71 : Ent :=
  ⟨14, [.agg ⟨[iP 4, iP 5, iP 3, iP 0, iP 1, iP 2, iP 1, iP 1, .slice none 0 0, iP 2, .slice none 0 0, .slice (some ⟨5, 0, none⟩) 3 3, iP 3, iP 3, iP 4, iP 5, iP 4, iP 4, .slice (some ⟨6, 0, none⟩) 4 4, .slice none 0 0, .slice none 0 0, .slice (some ⟨7, 0, none⟩) 3 3, .slice (some ⟨8, 0, none⟩) 2 2]⟩], 9,
   gC ++ [(5, .cells true 0 [iP 10, iP 10, iP 10, iP 11, iP 12, iP 12]),
    (6, .cells true 0 [iP 1, iP 0, iP 1, iP 0, iP 1, iP 1, iP 1, iP 0, iP 0, iP 0, iP 1, iP 0]),
    (7, .cells true 0 [iP 0, iP 2, iP 4]),
    (8, .cells true 0 [iP 0, iP 1, iP 1, iP 1, iP 3, iP 1])],
   [],
   .tuple ⟨[.slice none 0 0, iP 100]⟩⟩
theorem pc71_ok : pc71.okS EE.G = true := by kernel_rfl
theorem pc71_run : evT EE pbxT 1000000000 (.call pc71.f pc71.args) pc71.heap (keptK pc71) = some (.bool true) := by kernel_rfl
theorem pc71_h : pc71.holds EE := ent_run envOk pbxT_holds _ _ pc71_ok pc71_run
-- decani/practice.Keeps, 2359 steps
noncomputable def pc77 : Ent :=
  ⟨12, [.agg ⟨[iP 4, iP 5, iP 3, iP 0, iP 1, iP 2, iP 1, iP 1, .slice none 0 0, iP 2, .slice none 0 0, .slice (some ⟨5, 0, none⟩) 3 3, iP 3, iP 3, iP 4, iP 5, iP 4, iP 4, .slice (some ⟨6, 0, none⟩) 4 4, .slice none 0 0, .slice none 0 0, .slice (some ⟨7, 0, none⟩) 3 3, .slice (some ⟨8, 0, none⟩) 2 2]⟩, .slice none 0 0], 9,
   gC ++ [(5, .cells true 0 [iP 10, iP 10, iP 10, iP 11, iP 12, iP 12]),
    (6, .cells true 0 [iP 1, iP 0, iP 1, iP 0, iP 1, iP 1, iP 1, iP 0, iP 0, iP 0, iP 1, iP 0]),
    (7, .cells true 0 [iP 0, iP 0, iP 3]),
    (8, .cells true 0 [iP 0, iP 1, iP 1, iP 1, iP 3, iP 1])],
   [],
   .tuple ⟨[iP 0, iP 100]⟩⟩
theorem pc77_ok : pc77.okS EE.G = true := by kernel_rfl
theorem pc77_run : evT EE pbxT 1000000000 (.call pc77.f pc77.args) pc77.heap (keptK pc77) = some (.bool true) := by kernel_rfl
theorem pc77_h : pc77.holds EE := ent_run envOk pbxT_holds _ _ pc77_ok pc77_run
-- decani/practice.May, 2108 steps
noncomputable def pc85 : Ent :=
  ⟨11, [.agg ⟨[iP 4, iP 5, iP 3, iP 0, iP 1, iP 2, iP 1, iP 1, .slice none 0 0, iP 2, .slice none 0 0, .slice (some ⟨5, 0, none⟩) 3 3, iP 3, iP 3, iP 4, iP 5, iP 4, iP 4, .slice (some ⟨6, 0, none⟩) 4 4, .slice none 0 0, .slice none 0 0, .slice (some ⟨7, 0, none⟩) 2 2, .slice (some ⟨8, 0, none⟩) 2 2]⟩, .slice none 0 0], 9,
   gC ++ [(5, .cells true 0 [iP 10, iP 10, iP 10, iP 11, iP 12, iP 12]),
    (6, .cells true 0 [iP 1, iP 0, iP 1, iP 0, iP 1, iP 1, iP 1, iP 0, iP 0, iP 0, iP 1, iP 0]),
    (7, .cells true 0 [iP 0, iP 2]),
    (8, .cells true 0 [iP 0, iP 1, iP 1, iP 1, iP 3, iP 1])],
   [],
   .tuple ⟨[.bool false, iP 100]⟩⟩
theorem pc85_ok : pc85.okS EE.G = true := by kernel_rfl
theorem pc85_run : evT EE pbxT 1000000000 (.call pc85.f pc85.args) pc85.heap (keptK pc85) = some (.bool true) := by kernel_rfl
theorem pc85_h : pc85.holds EE := ent_run envOk pbxT_holds _ _ pc85_ok pc85_run
-- decani/practice.Plan, 2084 steps
noncomputable def pc91 : Ent :=
  ⟨14, [.agg ⟨[iP 4, iP 3, iP 3, iP 0, iP 1, iP 2, iP 1, iP 1, .slice none 0 0, iP 2, .slice none 0 0, .slice (some ⟨5, 0, none⟩) 3 3, iP 3, iP 3, iP 4, iP 5, iP 4, iP 4, .slice (some ⟨6, 0, none⟩) 4 4, .slice none 0 0, .slice none 0 0, .slice (some ⟨7, 0, none⟩) 3 3, .slice (some ⟨8, 0, none⟩) 2 2]⟩], 9,
   gC ++ [(5, .cells true 0 [iP 10, iP 10, iP 10, iP 11, iP 12, iP 12]),
    (6, .cells true 0 [iP 1, iP 0, iP 1, iP 0, iP 1, iP 1, iP 1, iP 0, iP 0, iP 0, iP 1, iP 0]),
    (7, .cells true 0 [iP 0, iP 2, iP 3]),
    (8, .cells true 0 [iP 0, iP 1, iP 1, iP 1, iP 3, iP 1])],
   [],
   .tuple ⟨[.slice none 0 0, iP 100]⟩⟩
theorem pc91_ok : pc91.okS EE.G = true := by kernel_rfl
theorem pc91_run : evT EE pbxT 1000000000 (.call pc91.f pc91.args) pc91.heap (keptK pc91) = some (.bool true) := by kernel_rfl
theorem pc91_h : pc91.holds EE := ent_run envOk pbxT_holds _ _ pc91_ok pc91_run
-- decani/practice.Keeps, 1183 steps
noncomputable def pc98 : Ent :=
  ⟨12, [.agg ⟨[iP 4, iP 5, iP 3, iP 0, iP 1, iP 2, iP 1, iP 1, .slice none 0 0, iP 2, .slice none 0 0, .slice (some ⟨5, 0, none⟩) 3 3, iP 7, iP 7, iP 4, iP 5, iP 4, iP 4, .slice (some ⟨6, 0, none⟩) 4 4, .slice none 0 0, .slice none 0 0, .slice (some ⟨7, 0, none⟩) 3 3, .slice (some ⟨8, 0, none⟩) 2 2]⟩, .slice none 0 0], 9,
   gC ++ [(5, .cells true 0 [iP 10, iP 10, iP 10, iP 11, iP 12, iP 12]),
    (6, .cells true 0 [iP 1, iP 0, iP 1, iP 0, iP 1, iP 1, iP 1, iP 0, iP 0, iP 0, iP 1, iP 0]),
    (7, .cells true 0 [iP 0, iP 2, iP 3]),
    (8, .cells true 0 [iP 0, iP 1, iP 1, iP 1, iP 3, iP 1])],
   [],
   .tuple ⟨[iP 0, iP 100]⟩⟩
theorem pc98_ok : pc98.okS EE.G = true := by kernel_rfl
theorem pc98_run : evT EE pbxT 1000000000 (.call pc98.f pc98.args) pc98.heap (keptK pc98) = some (.bool true) := by kernel_rfl
theorem pc98_h : pc98.holds EE := ent_run envOk pbxT_holds _ _ pc98_ok pc98_run
-- decani/practice.May, 282 steps
noncomputable def pc104 : Ent :=
  ⟨11, [.agg ⟨[iP 4, iP 5, iP 3, iP 0, iP 1, iP 2, iP 1, iP 1, .slice none 0 0, iP 4, .slice none 0 0, .slice (some ⟨5, 0, none⟩) 3 3, iP 3, iP 3, iP 4, iP 5, iP 4, iP 4, .slice (some ⟨6, 0, none⟩) 4 4, .slice none 0 0, .slice none 0 0, .slice (some ⟨7, 0, none⟩) 3 3, .slice (some ⟨8, 0, none⟩) 2 2]⟩, .slice none 0 0], 9,
   gC ++ [(5, .cells true 0 [iP 10, iP 10, iP 10, iP 11, iP 12, iP 12]),
    (6, .cells true 0 [iP 1, iP 0, iP 1, iP 0, iP 1, iP 1, iP 1, iP 0, iP 0, iP 0, iP 1, iP 0]),
    (7, .cells true 0 [iP 0, iP 2, iP 3]),
    (8, .cells true 0 [iP 0, iP 1, iP 1, iP 1, iP 3, iP 1])],
   [],
   .tuple ⟨[.bool false, iP 100]⟩⟩
theorem pc104_ok : pc104.okS EE.G = true := by kernel_rfl
theorem pc104_run : evT EE pbxT 1000000000 (.call pc104.f pc104.args) pc104.heap (keptK pc104) = some (.bool true) := by kernel_rfl
theorem pc104_h : pc104.holds EE := ent_run envOk pbxT_holds _ _ pc104_ok pc104_run
-- decani/practice.Right, 249 steps
noncomputable def pc108 : Ent :=
  ⟨9, [.agg ⟨[iP 4, iP 5, iP 3, iP 0, iP 1, iP 2, iP 1, iP 1, .slice none 0 0, iP 4, .slice none 0 0, .slice (some ⟨5, 0, none⟩) 3 3, iP 3, iP 3, iP 4, iP 5, iP 4, iP 4, .slice (some ⟨6, 0, none⟩) 4 4, .slice none 0 0, .slice none 0 0, .slice (some ⟨7, 0, none⟩) 3 3, .slice (some ⟨8, 0, none⟩) 2 2]⟩], 9,
   gC ++ [(5, .cells true 0 [iP 10, iP 10, iP 10, iP 11, iP 12, iP 12]),
    (6, .cells true 0 [iP 1, iP 0, iP 1, iP 0, iP 1, iP 1, iP 1, iP 0, iP 0, iP 0, iP 1, iP 0]),
    (7, .cells true 0 [iP 0, iP 2, iP 3]),
    (8, .cells true 0 [iP 0, iP 1, iP 1, iP 1, iP 3, iP 1])],
   [],
   .tuple ⟨[.bool false, iP 100]⟩⟩
theorem pc108_ok : pc108.okS EE.G = true := by kernel_rfl
theorem pc108_run : evT EE pbxT 1000000000 (.call pc108.f pc108.args) pc108.heap (keptK pc108) = some (.bool true) := by kernel_rfl
theorem pc108_h : pc108.holds EE := ent_run envOk pbxT_holds _ _ pc108_ok pc108_run
-- decani/practice.Right, 134 steps
noncomputable def pc115 : Ent :=
  ⟨9, [.agg ⟨[iP 0, iP 0, iP 0, iP 0, iP 0, iP 0, iP 0, iP 0, .slice none 0 0, iP 0, .slice none 0 0, .slice none 0 0, iP 0, iP 0, iP 0, iP 0, iP 0, iP 0, .slice none 0 0, .slice none 0 0, .slice none 0 0, .slice none 0 0, .slice none 0 0]⟩], 5,
   gC,
   [],
   .tuple ⟨[.bool false, iP 100]⟩⟩
theorem pc115_ok : pc115.okS EE.G = true := by kernel_rfl
theorem pc115_run : evT EE pbxT 1000000000 (.call pc115.f pc115.args) pc115.heap (keptK pc115) = some (.bool true) := by kernel_rfl
theorem pc115_h : pc115.holds EE := ent_run envOk pbxT_holds _ _ pc115_ok pc115_run
end Go.Proofs.YtejlmnfioifniaaGreatDoor
