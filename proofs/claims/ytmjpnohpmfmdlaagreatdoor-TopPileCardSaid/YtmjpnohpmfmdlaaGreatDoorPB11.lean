/- Known calls, part 11: what single calls hand back, at small heaps, by the kernel's own run of the evaluator. No conditions. -/
import Derived.Test.YtmjpnohpmfmdlaaGreatDoorPAT
set_option linter.all false
namespace Go.Proofs.YtmjpnohpmfmdlaaGreatDoor
open Go.Ai
set_option maxRecDepth 1000000
-- decani/office.Kept, 8553 steps
noncomputable def pb11 : Ent :=
  ⟨11, [.agg ⟨[iP 1, iP 0, .slice (some ⟨6, 0, none⟩) 4 18446744073709551616, .slice (some ⟨7, 0, none⟩) 1 1, .bool false, .slice none 0 0, .bool false, .slice none 0 0]⟩, iP 0, iP 3], 8,
   gB ++ [(6, .cells true 4 [iP 0, iP 0, iP 1, iP 0, iP 0, iP 1, iP 0, iP 0, iP 1, iP 0, iP 0, iP 1]),
    (7, .cells true 0 [iP 1, iP 1, iP 1])],
   [],
   .tuple ⟨[iP 0, iP 0]⟩⟩
theorem pb11_ok : pb11.okS EE.G = true := by kernel_rfl
theorem pb11_run : evT EE paT 1000000000 (.call pb11.f pb11.args) pb11.heap (keptK pb11) = some (.bool true) := by kernel_rfl
theorem pb11_h : pb11.holds EE := ent_run envOk paT_holds _ _ pb11_ok pb11_run
-- decani/office.Chief, 11671 steps
noncomputable def pb32 : Ent :=
  ⟨14, [.agg ⟨[iP 2, iP 0, .slice (some ⟨6, 0, none⟩) 4 18446744073709551616, .slice (some ⟨7, 0, none⟩) 1 1, .bool false, .slice none 0 0, .bool false, .slice none 0 0]⟩, iP 0, iP 1], 8,
   gB ++ [(6, .cells true 4 [iP 0, iP 0, iP 1, iP 0, iP 0, iP 1, iP 0, iP 0, iP 1, iP 0, iP 0, iP 1]),
    (7, .cells true 0 [iP 1, iP 1, iP 1])],
   [.cells true 2 [iP 1]],
   .tuple ⟨[.slice (some ⟨8, 0, none⟩) 1 18446744073709551616, iP 0]⟩⟩
theorem pb32_ok : pb32.okS EE.G = true := by kernel_rfl
theorem pb32_run : evT EE paT 1000000000 (.call pb32.f pb32.args) pb32.heap (keptK pb32) = some (.bool true) := by kernel_rfl
theorem pb32_h : pb32.holds EE := ent_run envOk paT_holds _ _ pb32_ok pb32_run
-- decani/office.Kept, 7982 steps
noncomputable def pb53 : Ent :=
  ⟨11, [.agg ⟨[iP 3, iP 0, .slice (some ⟨6, 0, none⟩) 2 18446744073709551616, .slice (some ⟨7, 0, none⟩) 1 1, .bool false, .slice none 0 0, .bool false, .slice none 0 0]⟩, iP 0, iP 0], 8,
   gB ++ [(6, .cells true 4 [iP 1, iP 1, iP 1, iP 1, iP 1, iP 1]),
    (7, .cells true 0 [iP 1, iP 1, iP 1])],
   [],
   .tuple ⟨[iP 2, iP 0]⟩⟩
theorem pb53_ok : pb53.okS EE.G = true := by kernel_rfl
theorem pb53_run : evT EE paT 1000000000 (.call pb53.f pb53.args) pb53.heap (keptK pb53) = some (.bool true) := by kernel_rfl
theorem pb53_h : pb53.holds EE := ent_run envOk paT_holds _ _ pb53_ok pb53_run
-- decani/office.Chief, 10737 steps
noncomputable def pb74 : Ent :=
  ⟨14, [.agg ⟨[iP 3, iP 0, .slice (some ⟨6, 0, none⟩) 3 18446744073709551616, .slice (some ⟨7, 0, none⟩) 1 1, .bool false, .slice none 0 0, .bool false, .slice none 0 0]⟩, iP 0, iP 1], 8,
   gB ++ [(6, .cells true 4 [iP 1, iP 1, iP 1, iP 1, iP 1, iP 1, iP 1, iP 1, iP 1]),
    (7, .cells true 0 [iP 1, iP 1, iP 1])],
   [.cells true 2 [iP 0]],
   .tuple ⟨[.slice (some ⟨8, 0, none⟩) 1 18446744073709551616, iP 0]⟩⟩
theorem pb74_ok : pb74.okS EE.G = true := by kernel_rfl
theorem pb74_run : evT EE paT 1000000000 (.call pb74.f pb74.args) pb74.heap (keptK pb74) = some (.bool true) := by kernel_rfl
theorem pb74_h : pb74.holds EE := ent_run envOk paT_holds _ _ pb74_ok pb74_run
-- decani/office.Chief, 14149 steps
noncomputable def pb95 : Ent :=
  ⟨14, [.agg ⟨[iP 3, iP 0, .slice (some ⟨6, 0, none⟩) 4 18446744073709551616, .slice (some ⟨7, 0, none⟩) 1 1, .bool false, .slice none 0 0, .bool false, .slice none 0 0]⟩, iP 0, iP 2], 8,
   gB ++ [(6, .cells true 4 [iP 0, iP 0, iP 1, iP 0, iP 0, iP 1, iP 0, iP 0, iP 1, iP 0, iP 0, iP 1]),
    (7, .cells true 0 [iP 1, iP 1, iP 1])],
   [.cells true 2 [iP 2]],
   .tuple ⟨[.slice (some ⟨8, 0, none⟩) 1 18446744073709551616, iP 0]⟩⟩
theorem pb95_ok : pb95.okS EE.G = true := by kernel_rfl
theorem pb95_run : evT EE paT 1000000000 (.call pb95.f pb95.args) pb95.heap (keptK pb95) = some (.bool true) := by kernel_rfl
theorem pb95_h : pb95.holds EE := ent_run envOk paT_holds _ _ pb95_ok pb95_run
-- decani/office.Kept, 12271 steps
noncomputable def pb116 : Ent :=
  ⟨11, [.agg ⟨[iP 3, iP 0, .slice (some ⟨6, 0, none⟩) 4 18446744073709551616, .slice (some ⟨7, 0, none⟩) 1 1, .bool false, .slice none 0 0, .bool false, .slice none 0 0]⟩, iP 0, iP 3], 8,
   gB ++ [(6, .cells true 4 [iP 2, iP 2, iP 1, iP 2, iP 2, iP 1, iP 2, iP 2, iP 1, iP 2, iP 2, iP 1]),
    (7, .cells true 0 [iP 1, iP 1, iP 1])],
   [],
   .tuple ⟨[iP 0, iP 0]⟩⟩
theorem pb116_ok : pb116.okS EE.G = true := by kernel_rfl
theorem pb116_run : evT EE paT 1000000000 (.call pb116.f pb116.args) pb116.heap (keptK pb116) = some (.bool true) := by kernel_rfl
theorem pb116_h : pb116.holds EE := ent_run envOk paT_holds _ _ pb116_ok pb116_run
-- decani/office.Chief, 9427 steps
noncomputable def pb137 : Ent :=
  ⟨14, [.agg ⟨[iP 4, iP 0, .slice (some ⟨6, 0, none⟩) 2 18446744073709551616, .slice (some ⟨7, 0, none⟩) 1 1, .bool false, .slice none 0 0, .bool false, .slice none 0 0]⟩, iP 0, iP 2], 8,
   gB ++ [(6, .cells true 4 [iP 2, iP 2, iP 1, iP 2, iP 2, iP 1]),
    (7, .cells true 0 [iP 1, iP 1, iP 1])],
   [.cells true 2 [iP 0]],
   .tuple ⟨[.slice (some ⟨8, 0, none⟩) 1 18446744073709551616, iP 0]⟩⟩
theorem pb137_ok : pb137.okS EE.G = true := by kernel_rfl
theorem pb137_run : evT EE paT 1000000000 (.call pb137.f pb137.args) pb137.heap (keptK pb137) = some (.bool true) := by kernel_rfl
theorem pb137_h : pb137.holds EE := ent_run envOk paT_holds _ _ pb137_ok pb137_run
-- decani/office.Falls, 12569 steps
noncomputable def pb158 : Ent :=
  ⟨9, [.agg ⟨[iP 4, iP 0, .slice (some ⟨6, 0, none⟩) 3 18446744073709551616, .slice (some ⟨7, 0, none⟩) 1 1, .bool false, .slice none 0 0, .bool false, .slice none 0 0]⟩, iP 0, iP 1], 8,
   gB ++ [(6, .cells true 4 [iP 1, iP 1, iP 1, iP 1, iP 1, iP 1, iP 1, iP 1, iP 1]),
    (7, .cells true 0 [iP 1, iP 1, iP 1])],
   [],
   .tuple ⟨[.agg ⟨[iP 2, iP 2]⟩, iP 0]⟩⟩
theorem pb158_ok : pb158.okS EE.G = true := by kernel_rfl
theorem pb158_run : evT EE paT 1000000000 (.call pb158.f pb158.args) pb158.heap (keptK pb158) = some (.bool true) := by kernel_rfl
theorem pb158_h : pb158.holds EE := ent_run envOk paT_holds _ _ pb158_ok pb158_run
-- decani/office.Falls, 16067 steps
noncomputable def pb179 : Ent :=
  ⟨9, [.agg ⟨[iP 4, iP 0, .slice (some ⟨6, 0, none⟩) 4 18446744073709551616, .slice (some ⟨7, 0, none⟩) 1 1, .bool false, .slice none 0 0, .bool false, .slice none 0 0]⟩, iP 0, iP 0], 8,
   gB ++ [(6, .cells true 4 [iP 0, iP 0, iP 1, iP 0, iP 0, iP 1, iP 0, iP 0, iP 1, iP 0, iP 0, iP 1]),
    (7, .cells true 0 [iP 1, iP 1, iP 1])],
   [],
   .tuple ⟨[.agg ⟨[iP 0, iP 0]⟩, iP 0]⟩⟩
theorem pb179_ok : pb179.okS EE.G = true := by kernel_rfl
theorem pb179_run : evT EE paT 1000000000 (.call pb179.f pb179.args) pb179.heap (keptK pb179) = some (.bool true) := by kernel_rfl
theorem pb179_h : pb179.holds EE := ent_run envOk paT_holds _ _ pb179_ok pb179_run
-- decani/office.Falls, 16061 steps
noncomputable def pb200 : Ent :=
  ⟨9, [.agg ⟨[iP 4, iP 0, .slice (some ⟨6, 0, none⟩) 4 18446744073709551616, .slice (some ⟨7, 0, none⟩) 1 1, .bool false, .slice none 0 0, .bool false, .slice none 0 0]⟩, iP 0, iP 3], 8,
   gB ++ [(6, .cells true 4 [iP 1, iP 1, iP 1, iP 1, iP 1, iP 1, iP 1, iP 1, iP 1, iP 1, iP 1, iP 1]),
    (7, .cells true 0 [iP 1, iP 1, iP 1])],
   [],
   .tuple ⟨[.agg ⟨[iP 0, iP 0]⟩, iP 4]⟩⟩
theorem pb200_ok : pb200.okS EE.G = true := by kernel_rfl
theorem pb200_run : evT EE paT 1000000000 (.call pb200.f pb200.args) pb200.heap (keptK pb200) = some (.bool true) := by kernel_rfl
theorem pb200_h : pb200.holds EE := ent_run envOk paT_holds _ _ pb200_ok pb200_run
-- decani/office.Falls, 8257 steps
noncomputable def pb221 : Ent :=
  ⟨9, [.agg ⟨[iP 5, iP 0, .slice (some ⟨6, 0, none⟩) 1 18446744073709551616, .slice (some ⟨7, 0, none⟩) 1 1, .bool false, .slice none 0 0, .bool false, .slice none 0 0]⟩, iP 0, iP 0], 8,
   gB ++ [(6, .cells true 4 [iP 0, iP 0, iP 1]),
    (7, .cells true 0 [iP 1, iP 1, iP 1])],
   [],
   .tuple ⟨[.agg ⟨[iP 0, iP 0]⟩, iP 0]⟩⟩
theorem pb221_ok : pb221.okS EE.G = true := by kernel_rfl
theorem pb221_run : evT EE paT 1000000000 (.call pb221.f pb221.args) pb221.heap (keptK pb221) = some (.bool true) := by kernel_rfl
theorem pb221_h : pb221.holds EE := ent_run envOk paT_holds _ _ pb221_ok pb221_run
-- decani/office.Falls, 10932 steps
noncomputable def pb242 : Ent :=
  ⟨9, [.agg ⟨[iP 5, iP 0, .slice (some ⟨6, 0, none⟩) 2 18446744073709551616, .slice (some ⟨7, 0, none⟩) 1 1, .bool false, .slice none 0 0, .bool false, .slice none 0 0]⟩, iP 0, iP 0], 8,
   gB ++ [(6, .cells true 4 [iP 1, iP 1, iP 1, iP 1, iP 1, iP 1]),
    (7, .cells true 0 [iP 1, iP 1, iP 1])],
   [],
   .tuple ⟨[.agg ⟨[iP 1, iP 1]⟩, iP 0]⟩⟩
theorem pb242_ok : pb242.okS EE.G = true := by kernel_rfl
theorem pb242_run : evT EE paT 1000000000 (.call pb242.f pb242.args) pb242.heap (keptK pb242) = some (.bool true) := by kernel_rfl
theorem pb242_h : pb242.holds EE := ent_run envOk paT_holds _ _ pb242_ok pb242_run
-- decani/office.Falls, 10926 steps
noncomputable def pb263 : Ent :=
  ⟨9, [.agg ⟨[iP 5, iP 0, .slice (some ⟨6, 0, none⟩) 2 18446744073709551616, .slice (some ⟨7, 0, none⟩) 1 1, .bool false, .slice none 0 0, .bool false, .slice none 0 0]⟩, iP 0, iP 1], 8,
   gB ++ [(6, .cells true 4 [iP 4, iP 4, iP 1, iP 4, iP 4, iP 1]),
    (7, .cells true 0 [iP 1, iP 1, iP 1])],
   [],
   .tuple ⟨[.agg ⟨[iP 0, iP 0]⟩, iP 4]⟩⟩
theorem pb263_ok : pb263.okS EE.G = true := by kernel_rfl
theorem pb263_run : evT EE paT 1000000000 (.call pb263.f pb263.args) pb263.heap (keptK pb263) = some (.bool true) := by kernel_rfl
theorem pb263_h : pb263.holds EE := ent_run envOk paT_holds _ _ pb263_ok pb263_run
-- decani/office.Falls, 14240 steps
noncomputable def pb284 : Ent :=
  ⟨9, [.agg ⟨[iP 5, iP 0, .slice (some ⟨6, 0, none⟩) 3 18446744073709551616, .slice (some ⟨7, 0, none⟩) 1 1, .bool false, .slice none 0 0, .bool false, .slice none 0 0]⟩, iP 0, iP 1], 8,
   gB ++ [(6, .cells true 4 [iP 2, iP 2, iP 1, iP 2, iP 2, iP 1, iP 2, iP 2, iP 1]),
    (7, .cells true 0 [iP 1, iP 1, iP 1])],
   [],
   .tuple ⟨[.agg ⟨[iP 3, iP 3]⟩, iP 0]⟩⟩
theorem pb284_ok : pb284.okS EE.G = true := by kernel_rfl
theorem pb284_run : evT EE paT 1000000000 (.call pb284.f pb284.args) pb284.heap (keptK pb284) = some (.bool true) := by kernel_rfl
theorem pb284_h : pb284.holds EE := ent_run envOk paT_holds _ _ pb284_ok pb284_run
-- decani/office.Falls, 17875 steps
noncomputable def pb305 : Ent :=
  ⟨9, [.agg ⟨[iP 5, iP 0, .slice (some ⟨6, 0, none⟩) 4 18446744073709551616, .slice (some ⟨7, 0, none⟩) 1 1, .bool false, .slice none 0 0, .bool false, .slice none 0 0]⟩, iP 0, iP 0], 8,
   gB ++ [(6, .cells true 4 [iP 0, iP 0, iP 1, iP 0, iP 0, iP 1, iP 0, iP 0, iP 1, iP 0, iP 0, iP 1]),
    (7, .cells true 0 [iP 1, iP 1, iP 1])],
   [],
   .tuple ⟨[.agg ⟨[iP 0, iP 0]⟩, iP 0]⟩⟩
theorem pb305_ok : pb305.okS EE.G = true := by kernel_rfl
theorem pb305_run : evT EE paT 1000000000 (.call pb305.f pb305.args) pb305.heap (keptK pb305) = some (.bool true) := by kernel_rfl
theorem pb305_h : pb305.holds EE := ent_run envOk paT_holds _ _ pb305_ok pb305_run
-- decani/office.Falls, 18079 steps
noncomputable def pb326 : Ent :=
  ⟨9, [.agg ⟨[iP 5, iP 0, .slice (some ⟨6, 0, none⟩) 4 18446744073709551616, .slice (some ⟨7, 0, none⟩) 1 1, .bool false, .slice none 0 0, .bool false, .slice none 0 0]⟩, iP 0, iP 3], 8,
   gB ++ [(6, .cells true 4 [iP 1, iP 1, iP 1, iP 1, iP 1, iP 1, iP 1, iP 1, iP 1, iP 1, iP 1, iP 1]),
    (7, .cells true 0 [iP 1, iP 1, iP 1])],
   [],
   .tuple ⟨[.agg ⟨[iP 4, iP 4]⟩, iP 0]⟩⟩
theorem pb326_ok : pb326.okS EE.G = true := by kernel_rfl
theorem pb326_run : evT EE paT 1000000000 (.call pb326.f pb326.args) pb326.heap (keptK pb326) = some (.bool true) := by kernel_rfl
theorem pb326_h : pb326.holds EE := ent_run envOk paT_holds _ _ pb326_ok pb326_run
-- decani/office.Kept, 17241 steps
noncomputable def pb347 : Ent :=
  ⟨11, [.agg ⟨[iP 5, iP 0, .slice (some ⟨6, 0, none⟩) 4 18446744073709551616, .slice (some ⟨7, 0, none⟩) 1 1, .bool false, .slice none 0 0, .bool false, .slice none 0 0]⟩, iP 0, iP 2], 8,
   gB ++ [(6, .cells true 4 [iP 3, iP 3, iP 1, iP 3, iP 3, iP 1, iP 3, iP 3, iP 1, iP 3, iP 3, iP 1]),
    (7, .cells true 0 [iP 1, iP 1, iP 1])],
   [],
   .tuple ⟨[iP 0, iP 0]⟩⟩
theorem pb347_ok : pb347.okS EE.G = true := by kernel_rfl
theorem pb347_run : evT EE paT 1000000000 (.call pb347.f pb347.args) pb347.heap (keptK pb347) = some (.bool true) := by kernel_rfl
theorem pb347_h : pb347.holds EE := ent_run envOk paT_holds _ _ pb347_ok pb347_run
-- decani/office.Falls, 9654 steps
noncomputable def pb368 : Ent :=
  ⟨9, [.agg ⟨[iP 6, iP 0, .slice (some ⟨6, 0, none⟩) 1 18446744073709551616, .slice (some ⟨7, 0, none⟩) 1 1, .bool false, .slice none 0 0, .bool false, .slice none 0 0]⟩, iP 0, iP 0], 8,
   gB ++ [(6, .cells true 4 [iP 3, iP 3, iP 1]),
    (7, .cells true 0 [iP 1, iP 1, iP 1])],
   [],
   .tuple ⟨[.agg ⟨[iP 3, iP 3]⟩, iP 0]⟩⟩
theorem pb368_ok : pb368.okS EE.G = true := by kernel_rfl
theorem pb368_run : evT EE paT 1000000000 (.call pb368.f pb368.args) pb368.heap (keptK pb368) = some (.bool true) := by kernel_rfl
theorem pb368_h : pb368.holds EE := ent_run envOk paT_holds _ _ pb368_ok pb368_run
-- decani/office.Falls, 12415 steps
noncomputable def pb389 : Ent :=
  ⟨9, [.agg ⟨[iP 6, iP 0, .slice (some ⟨6, 0, none⟩) 2 18446744073709551616, .slice (some ⟨7, 0, none⟩) 1 1, .bool false, .slice none 0 0, .bool false, .slice none 0 0]⟩, iP 0, iP 0], 8,
   gB ++ [(6, .cells true 4 [iP 2, iP 2, iP 1, iP 2, iP 2, iP 1]),
    (7, .cells true 0 [iP 1, iP 1, iP 1])],
   [],
   .tuple ⟨[.agg ⟨[iP 2, iP 2]⟩, iP 0]⟩⟩
theorem pb389_ok : pb389.okS EE.G = true := by kernel_rfl
theorem pb389_run : evT EE paT 1000000000 (.call pb389.f pb389.args) pb389.heap (keptK pb389) = some (.bool true) := by kernel_rfl
theorem pb389_h : pb389.holds EE := ent_run envOk paT_holds _ _ pb389_ok pb389_run
-- decani/office.Falls, 12409 steps
noncomputable def pb410 : Ent :=
  ⟨9, [.agg ⟨[iP 6, iP 0, .slice (some ⟨6, 0, none⟩) 2 18446744073709551616, .slice (some ⟨7, 0, none⟩) 1 1, .bool false, .slice none 0 0, .bool false, .slice none 0 0]⟩, iP 0, iP 1], 8,
   gB ++ [(6, .cells true 4 [iP 5, iP 5, iP 1, iP 5, iP 5, iP 1]),
    (7, .cells true 0 [iP 1, iP 1, iP 1])],
   [],
   .tuple ⟨[.agg ⟨[iP 0, iP 0]⟩, iP 4]⟩⟩
theorem pb410_ok : pb410.okS EE.G = true := by kernel_rfl
theorem pb410_run : evT EE paT 1000000000 (.call pb410.f pb410.args) pb410.heap (keptK pb410) = some (.bool true) := by kernel_rfl
theorem pb410_h : pb410.holds EE := ent_run envOk paT_holds _ _ pb410_ok pb410_run
-- decani/office.Kept, 15723 steps
noncomputable def pb431 : Ent :=
  ⟨11, [.agg ⟨[iP 6, iP 0, .slice (some ⟨6, 0, none⟩) 3 18446744073709551616, .slice (some ⟨7, 0, none⟩) 1 1, .bool false, .slice none 0 0, .bool false, .slice none 0 0]⟩, iP 0, iP 0], 8,
   gB ++ [(6, .cells true 4 [iP 2, iP 2, iP 1, iP 2, iP 2, iP 1, iP 2, iP 2, iP 1]),
    (7, .cells true 0 [iP 1, iP 1, iP 1])],
   [],
   .tuple ⟨[iP 2, iP 0]⟩⟩
theorem pb431_ok : pb431.okS EE.G = true := by kernel_rfl
theorem pb431_run : evT EE paT 1000000000 (.call pb431.f pb431.args) pb431.heap (keptK pb431) = some (.bool true) := by kernel_rfl
theorem pb431_h : pb431.holds EE := ent_run envOk paT_holds _ _ pb431_ok pb431_run
-- decani/office.Kept, 15788 steps
noncomputable def pb452 : Ent :=
  ⟨11, [.agg ⟨[iP 6, iP 0, .slice (some ⟨6, 0, none⟩) 3 18446744073709551616, .slice (some ⟨7, 0, none⟩) 1 1, .bool false, .slice none 0 0, .bool false, .slice none 0 0]⟩, iP 0, iP 1], 8,
   gB ++ [(6, .cells true 4 [iP 4, iP 4, iP 1, iP 4, iP 4, iP 1, iP 4, iP 4, iP 1]),
    (7, .cells true 0 [iP 1, iP 1, iP 1])],
   [],
   .tuple ⟨[iP 2, iP 0]⟩⟩
theorem pb452_ok : pb452.okS EE.G = true := by kernel_rfl
theorem pb452_run : evT EE paT 1000000000 (.call pb452.f pb452.args) pb452.heap (keptK pb452) = some (.bool true) := by kernel_rfl
theorem pb452_h : pb452.holds EE := ent_run envOk paT_holds _ _ pb452_ok pb452_run
-- decani/office.Kept, 19750 steps
noncomputable def pb473 : Ent :=
  ⟨11, [.agg ⟨[iP 6, iP 0, .slice (some ⟨6, 0, none⟩) 4 18446744073709551616, .slice (some ⟨7, 0, none⟩) 1 1, .bool false, .slice none 0 0, .bool false, .slice none 0 0]⟩, iP 0, iP 3], 8,
   gB ++ [(6, .cells true 4 [iP 0, iP 0, iP 1, iP 0, iP 0, iP 1, iP 0, iP 0, iP 1, iP 0, iP 0, iP 1]),
    (7, .cells true 0 [iP 1, iP 1, iP 1])],
   [],
   .tuple ⟨[iP 2, iP 0]⟩⟩
theorem pb473_ok : pb473.okS EE.G = true := by kernel_rfl
theorem pb473_run : evT EE paT 1000000000 (.call pb473.f pb473.args) pb473.heap (keptK pb473) = some (.bool true) := by kernel_rfl
theorem pb473_h : pb473.holds EE := ent_run envOk paT_holds _ _ pb473_ok pb473_run
-- decani/office.Kept, 19801 steps
noncomputable def pb494 : Ent :=
  ⟨11, [.agg ⟨[iP 6, iP 0, .slice (some ⟨6, 0, none⟩) 4 18446744073709551616, .slice (some ⟨7, 0, none⟩) 1 1, .bool false, .slice none 0 0, .bool false, .slice none 0 0]⟩, iP 0, iP 2], 8,
   gB ++ [(6, .cells true 4 [iP 2, iP 2, iP 1, iP 2, iP 2, iP 1, iP 2, iP 2, iP 1, iP 2, iP 2, iP 1]),
    (7, .cells true 0 [iP 1, iP 1, iP 1])],
   [],
   .tuple ⟨[iP 2, iP 0]⟩⟩
theorem pb494_ok : pb494.okS EE.G = true := by kernel_rfl
theorem pb494_run : evT EE paT 1000000000 (.call pb494.f pb494.args) pb494.heap (keptK pb494) = some (.bool true) := by kernel_rfl
theorem pb494_h : pb494.holds EE := ent_run envOk paT_holds _ _ pb494_ok pb494_run
-- decani/office.Chief, 18903 steps
noncomputable def pb515 : Ent :=
  ⟨14, [.agg ⟨[iP 6, iP 0, .slice (some ⟨6, 0, none⟩) 4 18446744073709551616, .slice (some ⟨7, 0, none⟩) 1 1, .bool false, .slice none 0 0, .bool false, .slice none 0 0]⟩, iP 0, iP 5], 8,
   gB ++ [(6, .cells true 4 [iP 4, iP 4, iP 1, iP 4, iP 4, iP 1, iP 4, iP 4, iP 1, iP 4, iP 4, iP 1]),
    (7, .cells true 0 [iP 1, iP 1, iP 1])],
   [.cells true 2 [iP 1]],
   .tuple ⟨[.slice (some ⟨8, 0, none⟩) 1 18446744073709551616, iP 0]⟩⟩
theorem pb515_ok : pb515.okS EE.G = true := by kernel_rfl
theorem pb515_run : evT EE paT 1000000000 (.call pb515.f pb515.args) pb515.heap (keptK pb515) = some (.bool true) := by kernel_rfl
theorem pb515_h : pb515.holds EE := ent_run envOk paT_holds _ _ pb515_ok pb515_run
-- decani/office.Chief, 6827 steps
noncomputable def pb536 : Ent :=
  ⟨14, [.agg ⟨[iP 1, iP 0, .slice (some ⟨6, 0, none⟩) 3 18446744073709551616, .slice (some ⟨7, 0, none⟩) 1 1, .bool false, .slice none 0 0, .bool false, .slice none 0 0]⟩, iP 0, iP 0], 8,
   gB ++ [(6, .cells true 4 [iP 0, iP 0, iP 1, iP 0, iP 0, iP 1, iP 0, iP 0, iP 1]),
    (7, .cells true 0 [iP 1, iP 1, iP 1])],
   [.cells true 2 [iP 0]],
   .tuple ⟨[.slice (some ⟨8, 0, none⟩) 1 18446744073709551616, iP 0]⟩⟩
theorem pb536_ok : pb536.okS EE.G = true := by kernel_rfl
theorem pb536_run : evT EE paT 1000000000 (.call pb536.f pb536.args) pb536.heap (keptK pb536) = some (.bool true) := by kernel_rfl
theorem pb536_h : pb536.holds EE := ent_run envOk paT_holds _ _ pb536_ok pb536_run
-- decani/office.Kept, 5785 steps
noncomputable def pb555 : Ent :=
  ⟨11, [.agg ⟨[iP 3, iP 0, .slice (some ⟨6, 0, none⟩) 1 18446744073709551616, .slice (some ⟨7, 0, none⟩) 1 1, .bool false, .slice none 0 0, .bool false, .slice none 0 0]⟩, iP 0, iP 0], 8,
   gB ++ [(6, .cells true 4 [iP 2, iP 2, iP 1]),
    (7, .cells true 0 [iP 1, iP 1, iP 1])],
   [],
   .tuple ⟨[iP 2, iP 0]⟩⟩
theorem pb555_ok : pb555.okS EE.G = true := by kernel_rfl
theorem pb555_run : evT EE paT 1000000000 (.call pb555.f pb555.args) pb555.heap (keptK pb555) = some (.bool true) := by kernel_rfl
theorem pb555_h : pb555.holds EE := ent_run envOk paT_holds _ _ pb555_ok pb555_run
-- decani/office.Falls, 3281 steps
noncomputable def pb573 : Ent :=
  ⟨9, [.agg ⟨[iP 1, iP 0, .slice (some ⟨6, 0, none⟩) 1 18446744073709551616, .slice (some ⟨7, 0, none⟩) 1 1, .bool false, .slice none 0 0, .bool false, .slice none 0 0]⟩, iP 0, iP 0], 8,
   gB ++ [(6, .cells true 4 [iP 0, iP 0, iP 1]),
    (7, .cells true 0 [iP 1, iP 1, iP 1])],
   [],
   .tuple ⟨[.agg ⟨[iP 0, iP 0]⟩, iP 0]⟩⟩
theorem pb573_ok : pb573.okS EE.G = true := by kernel_rfl
theorem pb573_run : evT EE paT 1000000000 (.call pb573.f pb573.args) pb573.heap (keptK pb573) = some (.bool true) := by kernel_rfl
theorem pb573_h : pb573.holds EE := ent_run envOk paT_holds _ _ pb573_ok pb573_run
end Go.Proofs.YtmjpnohpmfmdlaaGreatDoor
