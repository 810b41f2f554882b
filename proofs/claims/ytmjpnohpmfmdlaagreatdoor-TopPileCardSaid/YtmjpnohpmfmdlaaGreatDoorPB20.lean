/- Known calls, part 20: what single calls hand back, at small heaps, by the kernel's own run of the evaluator. No conditions. -/
import Derived.Test.YtmjpnohpmfmdlaaGreatDoorPAT
set_option linter.all false
namespace Go.Proofs.YtmjpnohpmfmdlaaGreatDoor
open Go.Ai
set_option maxRecDepth 1000000
-- decani/office.Falls, 8520 steps
noncomputable def pb20 : Ent :=
  ⟨9, [.agg ⟨[iP 2, iP 0, .slice (some ⟨6, 0, none⟩) 3 18446744073709551616, .slice (some ⟨7, 0, none⟩) 1 1, .bool false, .slice none 0 0, .bool false, .slice none 0 0]⟩, iP 0, iP 0], 8,
   gB ++ [(6, .cells true 4 [iP 1, iP 1, iP 1, iP 1, iP 1, iP 1, iP 1, iP 1, iP 1]),
    (7, .cells true 0 [iP 1, iP 1, iP 1])],
   [],
   .tuple ⟨[.agg ⟨[iP 1, iP 1]⟩, iP 0]⟩⟩
theorem pb20_ok : pb20.okS EE.G = true := by kernel_rfl
theorem pb20_run : evT EE paT 1000000000 (.call pb20.f pb20.args) pb20.heap (keptK pb20) = some (.bool true) := by kernel_rfl
theorem pb20_h : pb20.holds EE := ent_run envOk paT_holds _ _ pb20_ok pb20_run
-- decani/office.Kept, 10412 steps
noncomputable def pb41 : Ent :=
  ⟨11, [.agg ⟨[iP 2, iP 0, .slice (some ⟨6, 0, none⟩) 4 18446744073709551616, .slice (some ⟨7, 0, none⟩) 1 1, .bool false, .slice none 0 0, .bool false, .slice none 0 0]⟩, iP 0, iP 1], 8,
   gB ++ [(6, .cells true 4 [iP 1, iP 1, iP 1, iP 1, iP 1, iP 1, iP 1, iP 1, iP 1, iP 1, iP 1, iP 1]),
    (7, .cells true 0 [iP 1, iP 1, iP 1])],
   [],
   .tuple ⟨[iP 0, iP 0]⟩⟩
theorem pb41_ok : pb41.okS EE.G = true := by kernel_rfl
theorem pb41_run : evT EE paT 1000000000 (.call pb41.f pb41.args) pb41.heap (keptK pb41) = some (.bool true) := by kernel_rfl
theorem pb41_h : pb41.holds EE := ent_run envOk paT_holds _ _ pb41_ok pb41_run
-- decani/office.Kept, 7951 steps
noncomputable def pb62 : Ent :=
  ⟨11, [.agg ⟨[iP 3, iP 0, .slice (some ⟨6, 0, none⟩) 2 18446744073709551616, .slice (some ⟨7, 0, none⟩) 1 1, .bool false, .slice none 0 0, .bool false, .slice none 0 0]⟩, iP 0, iP 1], 8,
   gB ++ [(6, .cells true 4 [iP 2, iP 2, iP 1, iP 2, iP 2, iP 1]),
    (7, .cells true 0 [iP 1, iP 1, iP 1])],
   [],
   .tuple ⟨[iP 0, iP 0]⟩⟩
theorem pb62_ok : pb62.okS EE.G = true := by kernel_rfl
theorem pb62_run : evT EE paT 1000000000 (.call pb62.f pb62.args) pb62.heap (keptK pb62) = some (.bool true) := by kernel_rfl
theorem pb62_h : pb62.holds EE := ent_run envOk paT_holds _ _ pb62_ok pb62_run
-- decani/office.Falls, 10120 steps
noncomputable def pb83 : Ent :=
  ⟨9, [.agg ⟨[iP 3, iP 0, .slice (some ⟨6, 0, none⟩) 3 18446744073709551616, .slice (some ⟨7, 0, none⟩) 1 1, .bool false, .slice none 0 0, .bool false, .slice none 0 0]⟩, iP 0, iP 1], 8,
   gB ++ [(6, .cells true 4 [iP 2, iP 2, iP 1, iP 2, iP 2, iP 1, iP 2, iP 2, iP 1]),
    (7, .cells true 0 [iP 1, iP 1, iP 1])],
   [],
   .tuple ⟨[.agg ⟨[iP 0, iP 0]⟩, iP 4]⟩⟩
theorem pb83_ok : pb83.okS EE.G = true := by kernel_rfl
theorem pb83_run : evT EE paT 1000000000 (.call pb83.f pb83.args) pb83.heap (keptK pb83) = some (.bool true) := by kernel_rfl
theorem pb83_h : pb83.holds EE := ent_run envOk paT_holds _ _ pb83_ok pb83_run
-- decani/office.Falls, 13532 steps
noncomputable def pb104 : Ent :=
  ⟨9, [.agg ⟨[iP 3, iP 0, .slice (some ⟨6, 0, none⟩) 4 18446744073709551616, .slice (some ⟨7, 0, none⟩) 1 1, .bool false, .slice none 0 0, .bool false, .slice none 0 0]⟩, iP 0, iP 2], 8,
   gB ++ [(6, .cells true 4 [iP 1, iP 1, iP 1, iP 1, iP 1, iP 1, iP 1, iP 1, iP 1, iP 1, iP 1, iP 1]),
    (7, .cells true 0 [iP 1, iP 1, iP 1])],
   [],
   .tuple ⟨[.agg ⟨[iP 0, iP 0]⟩, iP 4]⟩⟩
theorem pb104_ok : pb104.okS EE.G = true := by kernel_rfl
theorem pb104_run : evT EE paT 1000000000 (.call pb104.f pb104.args) pb104.heap (keptK pb104) = some (.bool true) := by kernel_rfl
theorem pb104_h : pb104.holds EE := ent_run envOk paT_holds _ _ pb104_ok pb104_run
-- decani/office.Chief, 9427 steps
noncomputable def pb125 : Ent :=
  ⟨14, [.agg ⟨[iP 4, iP 0, .slice (some ⟨6, 0, none⟩) 2 18446744073709551616, .slice (some ⟨7, 0, none⟩) 1 1, .bool false, .slice none 0 0, .bool false, .slice none 0 0]⟩, iP 0, iP 0], 8,
   gB ++ [(6, .cells true 4 [iP 0, iP 0, iP 1, iP 0, iP 0, iP 1]),
    (7, .cells true 0 [iP 1, iP 1, iP 1])],
   [.cells true 2 [iP 0]],
   .tuple ⟨[.slice (some ⟨8, 0, none⟩) 1 18446744073709551616, iP 0]⟩⟩
theorem pb125_ok : pb125.okS EE.G = true := by kernel_rfl
theorem pb125_run : evT EE paT 1000000000 (.call pb125.f pb125.args) pb125.heap (keptK pb125) = some (.bool true) := by kernel_rfl
theorem pb125_h : pb125.holds EE := ent_run envOk paT_holds _ _ pb125_ok pb125_run
-- decani/office.Falls, 12467 steps
noncomputable def pb146 : Ent :=
  ⟨9, [.agg ⟨[iP 4, iP 0, .slice (some ⟨6, 0, none⟩) 3 18446744073709551616, .slice (some ⟨7, 0, none⟩) 1 1, .bool false, .slice none 0 0, .bool false, .slice none 0 0]⟩, iP 0, iP 0], 8,
   gB ++ [(6, .cells true 4 [iP 0, iP 0, iP 1, iP 0, iP 0, iP 1, iP 0, iP 0, iP 1]),
    (7, .cells true 0 [iP 1, iP 1, iP 1])],
   [],
   .tuple ⟨[.agg ⟨[iP 0, iP 0]⟩, iP 0]⟩⟩
theorem pb146_ok : pb146.okS EE.G = true := by kernel_rfl
theorem pb146_run : evT EE paT 1000000000 (.call pb146.f pb146.args) pb146.heap (keptK pb146) = some (.bool true) := by kernel_rfl
theorem pb146_h : pb146.holds EE := ent_run envOk paT_holds _ _ pb146_ok pb146_run
-- decani/office.Falls, 12532 steps
noncomputable def pb167 : Ent :=
  ⟨9, [.agg ⟨[iP 4, iP 0, .slice (some ⟨6, 0, none⟩) 3 18446744073709551616, .slice (some ⟨7, 0, none⟩) 1 1, .bool false, .slice none 0 0, .bool false, .slice none 0 0]⟩, iP 0, iP 1], 8,
   gB ++ [(6, .cells true 4 [iP 2, iP 2, iP 1, iP 2, iP 2, iP 1, iP 2, iP 2, iP 1]),
    (7, .cells true 0 [iP 1, iP 1, iP 1])],
   [],
   .tuple ⟨[.agg ⟨[iP 3, iP 3]⟩, iP 0]⟩⟩
theorem pb167_ok : pb167.okS EE.G = true := by kernel_rfl
theorem pb167_run : evT EE paT 1000000000 (.call pb167.f pb167.args) pb167.heap (keptK pb167) = some (.bool true) := by kernel_rfl
theorem pb167_h : pb167.holds EE := ent_run envOk paT_holds _ _ pb167_ok pb167_run
-- decani/office.Falls, 16220 steps
noncomputable def pb188 : Ent :=
  ⟨9, [.agg ⟨[iP 4, iP 0, .slice (some ⟨6, 0, none⟩) 4 18446744073709551616, .slice (some ⟨7, 0, none⟩) 1 1, .bool false, .slice none 0 0, .bool false, .slice none 0 0]⟩, iP 0, iP 3], 8,
   gB ++ [(6, .cells true 4 [iP 0, iP 0, iP 1, iP 0, iP 0, iP 1, iP 0, iP 0, iP 1, iP 0, iP 0, iP 1]),
    (7, .cells true 0 [iP 1, iP 1, iP 1])],
   [],
   .tuple ⟨[.agg ⟨[iP 3, iP 3]⟩, iP 0]⟩⟩
theorem pb188_ok : pb188.okS EE.G = true := by kernel_rfl
theorem pb188_run : evT EE paT 1000000000 (.call pb188.f pb188.args) pb188.heap (keptK pb188) = some (.bool true) := by kernel_rfl
theorem pb188_h : pb188.holds EE := ent_run envOk paT_holds _ _ pb188_ok pb188_run
-- decani/office.Kept, 15382 steps
noncomputable def pb209 : Ent :=
  ⟨11, [.agg ⟨[iP 4, iP 0, .slice (some ⟨6, 0, none⟩) 4 18446744073709551616, .slice (some ⟨7, 0, none⟩) 1 1, .bool false, .slice none 0 0, .bool false, .slice none 0 0]⟩, iP 0, iP 2], 8,
   gB ++ [(6, .cells true 4 [iP 2, iP 2, iP 1, iP 2, iP 2, iP 1, iP 2, iP 2, iP 1, iP 2, iP 2, iP 1]),
    (7, .cells true 0 [iP 1, iP 1, iP 1])],
   [],
   .tuple ⟨[iP 0, iP 0]⟩⟩
theorem pb209_ok : pb209.okS EE.G = true := by kernel_rfl
theorem pb209_run : evT EE paT 1000000000 (.call pb209.f pb209.args) pb209.heap (keptK pb209) = some (.bool true) := by kernel_rfl
theorem pb209_h : pb209.holds EE := ent_run envOk paT_holds _ _ pb209_ok pb209_run
-- decani/office.Falls, 8410 steps
noncomputable def pb230 : Ent :=
  ⟨9, [.agg ⟨[iP 5, iP 0, .slice (some ⟨6, 0, none⟩) 1 18446744073709551616, .slice (some ⟨7, 0, none⟩) 1 1, .bool false, .slice none 0 0, .bool false, .slice none 0 0]⟩, iP 0, iP 0], 8,
   gB ++ [(6, .cells true 4 [iP 3, iP 3, iP 1]),
    (7, .cells true 0 [iP 1, iP 1, iP 1])],
   [],
   .tuple ⟨[.agg ⟨[iP 3, iP 3]⟩, iP 0]⟩⟩
theorem pb230_ok : pb230.okS EE.G = true := by kernel_rfl
theorem pb230_run : evT EE paT 1000000000 (.call pb230.f pb230.args) pb230.heap (keptK pb230) = some (.bool true) := by kernel_rfl
theorem pb230_h : pb230.holds EE := ent_run envOk paT_holds _ _ pb230_ok pb230_run
-- decani/office.Falls, 11034 steps
noncomputable def pb251 : Ent :=
  ⟨9, [.agg ⟨[iP 5, iP 0, .slice (some ⟨6, 0, none⟩) 2 18446744073709551616, .slice (some ⟨7, 0, none⟩) 1 1, .bool false, .slice none 0 0, .bool false, .slice none 0 0]⟩, iP 0, iP 1], 8,
   gB ++ [(6, .cells true 4 [iP 2, iP 2, iP 1, iP 2, iP 2, iP 1]),
    (7, .cells true 0 [iP 1, iP 1, iP 1])],
   [],
   .tuple ⟨[.agg ⟨[iP 3, iP 3]⟩, iP 0]⟩⟩
theorem pb251_ok : pb251.okS EE.G = true := by kernel_rfl
theorem pb251_run : evT EE paT 1000000000 (.call pb251.f pb251.args) pb251.heap (keptK pb251) = some (.bool true) := by kernel_rfl
theorem pb251_h : pb251.holds EE := ent_run envOk paT_holds _ _ pb251_ok pb251_run
-- decani/office.Kept, 14103 steps
noncomputable def pb272 : Ent :=
  ⟨11, [.agg ⟨[iP 5, iP 0, .slice (some ⟨6, 0, none⟩) 3 18446744073709551616, .slice (some ⟨7, 0, none⟩) 1 1, .bool false, .slice none 0 0, .bool false, .slice none 0 0]⟩, iP 0, iP 2], 8,
   gB ++ [(6, .cells true 4 [iP 0, iP 0, iP 1, iP 0, iP 0, iP 1, iP 0, iP 0, iP 1]),
    (7, .cells true 0 [iP 1, iP 1, iP 1])],
   [],
   .tuple ⟨[iP 2, iP 0]⟩⟩
theorem pb272_ok : pb272.okS EE.G = true := by kernel_rfl
theorem pb272_run : evT EE paT 1000000000 (.call pb272.f pb272.args) pb272.heap (keptK pb272) = some (.bool true) := by kernel_rfl
theorem pb272_h : pb272.holds EE := ent_run envOk paT_holds _ _ pb272_ok pb272_run
-- decani/office.Falls, 14203 steps
noncomputable def pb293 : Ent :=
  ⟨9, [.agg ⟨[iP 5, iP 0, .slice (some ⟨6, 0, none⟩) 3 18446744073709551616, .slice (some ⟨7, 0, none⟩) 1 1, .bool false, .slice none 0 0, .bool false, .slice none 0 0]⟩, iP 0, iP 1], 8,
   gB ++ [(6, .cells true 4 [iP 3, iP 3, iP 1, iP 3, iP 3, iP 1, iP 3, iP 3, iP 1]),
    (7, .cells true 0 [iP 1, iP 1, iP 1])],
   [],
   .tuple ⟨[.agg ⟨[iP 4, iP 4]⟩, iP 0]⟩⟩
theorem pb293_ok : pb293.okS EE.G = true := by kernel_rfl
theorem pb293_run : evT EE paT 1000000000 (.call pb293.f pb293.args) pb293.heap (keptK pb293) = some (.bool true) := by kernel_rfl
theorem pb293_h : pb293.holds EE := ent_run envOk paT_holds _ _ pb293_ok pb293_run
-- decani/office.Falls, 18028 steps
noncomputable def pb314 : Ent :=
  ⟨9, [.agg ⟨[iP 5, iP 0, .slice (some ⟨6, 0, none⟩) 4 18446744073709551616, .slice (some ⟨7, 0, none⟩) 1 1, .bool false, .slice none 0 0, .bool false, .slice none 0 0]⟩, iP 0, iP 3], 8,
   gB ++ [(6, .cells true 4 [iP 0, iP 0, iP 1, iP 0, iP 0, iP 1, iP 0, iP 0, iP 1, iP 0, iP 0, iP 1]),
    (7, .cells true 0 [iP 1, iP 1, iP 1])],
   [],
   .tuple ⟨[.agg ⟨[iP 3, iP 3]⟩, iP 0]⟩⟩
theorem pb314_ok : pb314.okS EE.G = true := by kernel_rfl
theorem pb314_run : evT EE paT 1000000000 (.call pb314.f pb314.args) pb314.heap (keptK pb314) = some (.bool true) := by kernel_rfl
theorem pb314_h : pb314.holds EE := ent_run envOk paT_holds _ _ pb314_ok pb314_run
-- decani/office.Falls, 17991 steps
noncomputable def pb335 : Ent :=
  ⟨9, [.agg ⟨[iP 5, iP 0, .slice (some ⟨6, 0, none⟩) 4 18446744073709551616, .slice (some ⟨7, 0, none⟩) 1 1, .bool false, .slice none 0 0, .bool false, .slice none 0 0]⟩, iP 0, iP 2], 8,
   gB ++ [(6, .cells true 4 [iP 2, iP 2, iP 1, iP 2, iP 2, iP 1, iP 2, iP 2, iP 1, iP 2, iP 2, iP 1]),
    (7, .cells true 0 [iP 1, iP 1, iP 1])],
   [],
   .tuple ⟨[.agg ⟨[iP 4, iP 4]⟩, iP 0]⟩⟩
theorem pb335_ok : pb335.okS EE.G = true := by kernel_rfl
theorem pb335_run : evT EE paT 1000000000 (.call pb335.f pb335.args) pb335.heap (keptK pb335) = some (.bool true) := by kernel_rfl
theorem pb335_h : pb335.holds EE := ent_run envOk paT_holds _ _ pb335_ok pb335_run
-- decani/office.Kept, 15989 steps
noncomputable def pb356 : Ent :=
  ⟨11, [.agg ⟨[iP 5, iP 0, .slice (some ⟨6, 0, none⟩) 4 18446744073709551616, .slice (some ⟨7, 0, none⟩) 1 1, .bool false, .slice none 0 0, .bool false, .slice none 0 0]⟩, iP 0, iP 2], 8,
   gB ++ [(6, .cells true 4 [iP 4, iP 4, iP 1, iP 4, iP 4, iP 1, iP 4, iP 4, iP 1, iP 4, iP 4, iP 1]),
    (7, .cells true 0 [iP 1, iP 1, iP 1])],
   [],
   .tuple ⟨[iP 0, iP 0]⟩⟩
theorem pb356_ok : pb356.okS EE.G = true := by kernel_rfl
theorem pb356_run : evT EE paT 1000000000 (.call pb356.f pb356.args) pb356.heap (keptK pb356) = some (.bool true) := by kernel_rfl
theorem pb356_h : pb356.holds EE := ent_run envOk paT_holds _ _ pb356_ok pb356_run
-- decani/office.Falls, 12313 steps
noncomputable def pb377 : Ent :=
  ⟨9, [.agg ⟨[iP 6, iP 0, .slice (some ⟨6, 0, none⟩) 2 18446744073709551616, .slice (some ⟨7, 0, none⟩) 1 1, .bool false, .slice none 0 0, .bool false, .slice none 0 0]⟩, iP 0, iP 0], 8,
   gB ++ [(6, .cells true 4 [iP 0, iP 0, iP 1, iP 0, iP 0, iP 1]),
    (7, .cells true 0 [iP 1, iP 1, iP 1])],
   [],
   .tuple ⟨[.agg ⟨[iP 0, iP 0]⟩, iP 0]⟩⟩
theorem pb377_ok : pb377.okS EE.G = true := by kernel_rfl
theorem pb377_run : evT EE paT 1000000000 (.call pb377.f pb377.args) pb377.heap (keptK pb377) = some (.bool true) := by kernel_rfl
theorem pb377_h : pb377.holds EE := ent_run envOk paT_holds _ _ pb377_ok pb377_run
-- decani/office.Falls, 12517 steps
noncomputable def pb398 : Ent :=
  ⟨9, [.agg ⟨[iP 6, iP 0, .slice (some ⟨6, 0, none⟩) 2 18446744073709551616, .slice (some ⟨7, 0, none⟩) 1 1, .bool false, .slice none 0 0, .bool false, .slice none 0 0]⟩, iP 0, iP 1], 8,
   gB ++ [(6, .cells true 4 [iP 3, iP 3, iP 1, iP 3, iP 3, iP 1]),
    (7, .cells true 0 [iP 1, iP 1, iP 1])],
   [],
   .tuple ⟨[.agg ⟨[iP 4, iP 4]⟩, iP 0]⟩⟩
theorem pb398_ok : pb398.okS EE.G = true := by kernel_rfl
theorem pb398_run : evT EE paT 1000000000 (.call pb398.f pb398.args) pb398.heap (keptK pb398) = some (.bool true) := by kernel_rfl
theorem pb398_h : pb398.holds EE := ent_run envOk paT_holds _ _ pb398_ok pb398_run
-- decani/office.Kept, 15723 steps
noncomputable def pb419 : Ent :=
  ⟨11, [.agg ⟨[iP 6, iP 0, .slice (some ⟨6, 0, none⟩) 3 18446744073709551616, .slice (some ⟨7, 0, none⟩) 1 1, .bool false, .slice none 0 0, .bool false, .slice none 0 0]⟩, iP 0, iP 2], 8,
   gB ++ [(6, .cells true 4 [iP 0, iP 0, iP 1, iP 0, iP 0, iP 1, iP 0, iP 0, iP 1]),
    (7, .cells true 0 [iP 1, iP 1, iP 1])],
   [],
   .tuple ⟨[iP 2, iP 0]⟩⟩
theorem pb419_ok : pb419.okS EE.G = true := by kernel_rfl
theorem pb419_run : evT EE paT 1000000000 (.call pb419.f pb419.args) pb419.heap (keptK pb419) = some (.bool true) := by kernel_rfl
theorem pb419_h : pb419.holds EE := ent_run envOk paT_holds _ _ pb419_ok pb419_run
-- decani/office.Kept, 15774 steps
noncomputable def pb440 : Ent :=
  ⟨11, [.agg ⟨[iP 6, iP 0, .slice (some ⟨6, 0, none⟩) 3 18446744073709551616, .slice (some ⟨7, 0, none⟩) 1 1, .bool false, .slice none 0 0, .bool false, .slice none 0 0]⟩, iP 0, iP 0], 8,
   gB ++ [(6, .cells true 4 [iP 3, iP 3, iP 1, iP 3, iP 3, iP 1, iP 3, iP 3, iP 1]),
    (7, .cells true 0 [iP 1, iP 1, iP 1])],
   [],
   .tuple ⟨[iP 2, iP 0]⟩⟩
theorem pb440_ok : pb440.okS EE.G = true := by kernel_rfl
theorem pb440_run : evT EE paT 1000000000 (.call pb440.f pb440.args) pb440.heap (keptK pb440) = some (.bool true) := by kernel_rfl
theorem pb440_h : pb440.holds EE := ent_run envOk paT_holds _ _ pb440_ok pb440_run
-- decani/office.Falls, 15133 steps
noncomputable def pb461 : Ent :=
  ⟨9, [.agg ⟨[iP 6, iP 0, .slice (some ⟨6, 0, none⟩) 3 18446744073709551616, .slice (some ⟨7, 0, none⟩) 1 1, .bool false, .slice none 0 0, .bool false, .slice none 0 0]⟩, iP 0, iP 2], 8,
   gB ++ [(6, .cells true 4 [iP 5, iP 5, iP 1, iP 5, iP 5, iP 1, iP 5, iP 5, iP 1]),
    (7, .cells true 0 [iP 1, iP 1, iP 1])],
   [],
   .tuple ⟨[.agg ⟨[iP 0, iP 0]⟩, iP 4]⟩⟩
theorem pb461_ok : pb461.okS EE.G = true := by kernel_rfl
theorem pb461_run : evT EE paT 1000000000 (.call pb461.f pb461.args) pb461.heap (keptK pb461) = some (.bool true) := by kernel_rfl
theorem pb461_h : pb461.holds EE := ent_run envOk paT_holds _ _ pb461_ok pb461_run
-- decani/office.Kept, 19750 steps
noncomputable def pb482 : Ent :=
  ⟨11, [.agg ⟨[iP 6, iP 0, .slice (some ⟨6, 0, none⟩) 4 18446744073709551616, .slice (some ⟨7, 0, none⟩) 1 1, .bool false, .slice none 0 0, .bool false, .slice none 0 0]⟩, iP 0, iP 2], 8,
   gB ++ [(6, .cells true 4 [iP 1, iP 1, iP 1, iP 1, iP 1, iP 1, iP 1, iP 1, iP 1, iP 1, iP 1, iP 1]),
    (7, .cells true 0 [iP 1, iP 1, iP 1])],
   [],
   .tuple ⟨[iP 2, iP 0]⟩⟩
theorem pb482_ok : pb482.okS EE.G = true := by kernel_rfl
theorem pb482_run : evT EE paT 1000000000 (.call pb482.f pb482.args) pb482.heap (keptK pb482) = some (.bool true) := by kernel_rfl
theorem pb482_h : pb482.holds EE := ent_run envOk paT_holds _ _ pb482_ok pb482_run
-- decani/office.Kept, 19713 steps
noncomputable def pb503 : Ent :=
  ⟨11, [.agg ⟨[iP 6, iP 0, .slice (some ⟨6, 0, none⟩) 4 18446744073709551616, .slice (some ⟨7, 0, none⟩) 1 1, .bool false, .slice none 0 0, .bool false, .slice none 0 0]⟩, iP 0, iP 1], 8,
   gB ++ [(6, .cells true 4 [iP 3, iP 3, iP 1, iP 3, iP 3, iP 1, iP 3, iP 3, iP 1, iP 3, iP 3, iP 1]),
    (7, .cells true 0 [iP 1, iP 1, iP 1])],
   [],
   .tuple ⟨[iP 2, iP 0]⟩⟩
theorem pb503_ok : pb503.okS EE.G = true := by kernel_rfl
theorem pb503_run : evT EE paT 1000000000 (.call pb503.f pb503.args) pb503.heap (keptK pb503) = some (.bool true) := by kernel_rfl
theorem pb503_h : pb503.holds EE := ent_run envOk paT_holds _ _ pb503_ok pb503_run
-- decani/office.Kept, 17848 steps
noncomputable def pb524 : Ent :=
  ⟨11, [.agg ⟨[iP 6, iP 0, .slice (some ⟨6, 0, none⟩) 4 18446744073709551616, .slice (some ⟨7, 0, none⟩) 1 1, .bool false, .slice none 0 0, .bool false, .slice none 0 0]⟩, iP 0, iP 1], 8,
   gB ++ [(6, .cells true 4 [iP 5, iP 5, iP 1, iP 5, iP 5, iP 1, iP 5, iP 5, iP 1, iP 5, iP 5, iP 1]),
    (7, .cells true 0 [iP 1, iP 1, iP 1])],
   [],
   .tuple ⟨[iP 0, iP 0]⟩⟩
theorem pb524_ok : pb524.okS EE.G = true := by kernel_rfl
theorem pb524_run : evT EE paT 1000000000 (.call pb524.f pb524.args) pb524.heap (keptK pb524) = some (.bool true) := by kernel_rfl
theorem pb524_h : pb524.holds EE := ent_run envOk paT_holds _ _ pb524_ok pb524_run
-- decani/office.Chief, 6563 steps
noncomputable def pb545 : Ent :=
  ⟨14, [.agg ⟨[iP 2, iP 0, .slice (some ⟨6, 0, none⟩) 2 18446744073709551616, .slice (some ⟨7, 0, none⟩) 1 1, .bool false, .slice none 0 0, .bool false, .slice none 0 0]⟩, iP 0, iP 1], 8,
   gB ++ [(6, .cells true 4 [iP 0, iP 0, iP 1, iP 0, iP 0, iP 1]),
    (7, .cells true 0 [iP 1, iP 1, iP 1])],
   [.cells true 2 [iP 1]],
   .tuple ⟨[.slice (some ⟨8, 0, none⟩) 1 18446744073709551616, iP 0]⟩⟩
theorem pb545_ok : pb545.okS EE.G = true := by kernel_rfl
theorem pb545_run : evT EE paT 1000000000 (.call pb545.f pb545.args) pb545.heap (keptK pb545) = some (.bool true) := by kernel_rfl
theorem pb545_h : pb545.holds EE := ent_run envOk paT_holds _ _ pb545_ok pb545_run
-- decani/office.Falls, 6548 steps
noncomputable def pb547 : Ent :=
  ⟨9, [.agg ⟨[iP 2, iP 0, .slice (some ⟨6, 0, none⟩) 2 18446744073709551616, .slice (some ⟨7, 0, none⟩) 1 1, .bool false, .slice none 0 0, .bool false, .slice none 0 0]⟩, iP 0, iP 0], 8,
   gB ++ [(6, .cells true 4 [iP 1, iP 1, iP 1, iP 1, iP 1, iP 1]),
    (7, .cells true 0 [iP 1, iP 1, iP 1])],
   [],
   .tuple ⟨[.agg ⟨[iP 1, iP 1]⟩, iP 0]⟩⟩
theorem pb547_ok : pb547.okS EE.G = true := by kernel_rfl
theorem pb547_run : evT EE paT 1000000000 (.call pb547.f pb547.args) pb547.heap (keptK pb547) = some (.bool true) := by kernel_rfl
theorem pb547_h : pb547.holds EE := ent_run envOk paT_holds _ _ pb547_ok pb547_run
end Go.Proofs.YtmjpnohpmfmdlaaGreatDoor
