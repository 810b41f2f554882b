/- Known calls, part 0: what single calls hand back, at small heaps, by the kernel's own run of the evaluator. No conditions. -/
import Derived.Test.YtmjpnohpmfmdlaaGreatDoorPAT
set_option linter.all false
namespace Go.Proofs.YtmjpnohpmfmdlaaGreatDoor
open Go.Ai
set_option maxRecDepth 1000000
-- decani/office.Falls, 14240 steps
noncomputable def pb0 : Ent :=
  ⟨9, [.agg ⟨[iP 5, iP 0, .slice (some ⟨6, 0, none⟩) 3 18446744073709551616, .slice (some ⟨7, 0, none⟩) 1 1, .bool false, .slice none 0 0, .bool false, .slice none 0 0]⟩, iP 0, iP 2], 8,
   gB ++ [(6, .cells true 4 [iP 1, iP 1, iP 1, iP 1, iP 1, iP 1, iP 1, iP 1, iP 1]),
    (7, .cells true 0 [iP 1, iP 1, iP 1])],
   [],
   .tuple ⟨[.agg ⟨[iP 3, iP 3]⟩, iP 0]⟩⟩
theorem pb0_ok : pb0.okS EE.G = true := by kernel_rfl
theorem pb0_run : evT EE paT 1000000000 (.call pb0.f pb0.args) pb0.heap (keptK pb0) = some (.bool true) := by kernel_rfl
theorem pb0_h : pb0.holds EE := ent_run envOk paT_holds _ _ pb0_ok pb0_run
-- decani/office.Kept, 8434 steps
noncomputable def pb21 : Ent :=
  ⟨11, [.agg ⟨[iP 2, iP 0, .slice (some ⟨6, 0, none⟩) 3 18446744073709551616, .slice (some ⟨7, 0, none⟩) 1 1, .bool false, .slice none 0 0, .bool false, .slice none 0 0]⟩, iP 0, iP 0], 8,
   gB ++ [(6, .cells true 4 [iP 1, iP 1, iP 1, iP 1, iP 1, iP 1, iP 1, iP 1, iP 1]),
    (7, .cells true 0 [iP 1, iP 1, iP 1])],
   [],
   .tuple ⟨[iP 2, iP 0]⟩⟩
theorem pb21_ok : pb21.okS EE.G = true := by kernel_rfl
theorem pb21_run : evT EE paT 1000000000 (.call pb21.f pb21.args) pb21.heap (keptK pb21) = some (.bool true) := by kernel_rfl
theorem pb21_h : pb21.holds EE := ent_run envOk paT_holds _ _ pb21_ok pb21_run
-- decani/office.Falls, 10421 steps
noncomputable def pb42 : Ent :=
  ⟨9, [.agg ⟨[iP 2, iP 0, .slice (some ⟨6, 0, none⟩) 4 18446744073709551616, .slice (some ⟨7, 0, none⟩) 1 1, .bool false, .slice none 0 0, .bool false, .slice none 0 0]⟩, iP 0, iP 2], 8,
   gB ++ [(6, .cells true 4 [iP 1, iP 1, iP 1, iP 1, iP 1, iP 1, iP 1, iP 1, iP 1, iP 1, iP 1, iP 1]),
    (7, .cells true 0 [iP 1, iP 1, iP 1])],
   [],
   .tuple ⟨[.agg ⟨[iP 0, iP 0]⟩, iP 4]⟩⟩
theorem pb42_ok : pb42.okS EE.G = true := by kernel_rfl
theorem pb42_run : evT EE paT 1000000000 (.call pb42.f pb42.args) pb42.heap (keptK pb42) = some (.bool true) := by kernel_rfl
theorem pb42_h : pb42.holds EE := ent_run envOk paT_holds _ _ pb42_ok pb42_run
-- decani/office.Falls, 10847 steps
noncomputable def pb63 : Ent :=
  ⟨9, [.agg ⟨[iP 3, iP 0, .slice (some ⟨6, 0, none⟩) 3 18446744073709551616, .slice (some ⟨7, 0, none⟩) 1 1, .bool false, .slice none 0 0, .bool false, .slice none 0 0]⟩, iP 0, iP 0], 8,
   gB ++ [(6, .cells true 4 [iP 0, iP 0, iP 1, iP 0, iP 0, iP 1, iP 0, iP 0, iP 1]),
    (7, .cells true 0 [iP 1, iP 1, iP 1])],
   [],
   .tuple ⟨[.agg ⟨[iP 0, iP 0]⟩, iP 0]⟩⟩
theorem pb63_ok : pb63.okS EE.G = true := by kernel_rfl
theorem pb63_run : evT EE paT 1000000000 (.call pb63.f pb63.args) pb63.heap (keptK pb63) = some (.bool true) := by kernel_rfl
theorem pb63_h : pb63.holds EE := ent_run envOk paT_holds _ _ pb63_ok pb63_run
-- decani/office.Kept, 10111 steps
noncomputable def pb84 : Ent :=
  ⟨11, [.agg ⟨[iP 3, iP 0, .slice (some ⟨6, 0, none⟩) 3 18446744073709551616, .slice (some ⟨7, 0, none⟩) 1 1, .bool false, .slice none 0 0, .bool false, .slice none 0 0]⟩, iP 0, iP 1], 8,
   gB ++ [(6, .cells true 4 [iP 2, iP 2, iP 1, iP 2, iP 2, iP 1, iP 2, iP 2, iP 1]),
    (7, .cells true 0 [iP 1, iP 1, iP 1])],
   [],
   .tuple ⟨[iP 0, iP 0]⟩⟩
theorem pb84_ok : pb84.okS EE.G = true := by kernel_rfl
theorem pb84_run : evT EE paT 1000000000 (.call pb84.f pb84.args) pb84.heap (keptK pb84) = some (.bool true) := by kernel_rfl
theorem pb84_h : pb84.holds EE := ent_run envOk paT_holds _ _ pb84_ok pb84_run
-- decani/office.Kept, 13523 steps
noncomputable def pb105 : Ent :=
  ⟨11, [.agg ⟨[iP 3, iP 0, .slice (some ⟨6, 0, none⟩) 4 18446744073709551616, .slice (some ⟨7, 0, none⟩) 1 1, .bool false, .slice none 0 0, .bool false, .slice none 0 0]⟩, iP 0, iP 2], 8,
   gB ++ [(6, .cells true 4 [iP 1, iP 1, iP 1, iP 1, iP 1, iP 1, iP 1, iP 1, iP 1, iP 1, iP 1, iP 1]),
    (7, .cells true 0 [iP 1, iP 1, iP 1])],
   [],
   .tuple ⟨[iP 0, iP 0]⟩⟩
theorem pb105_ok : pb105.okS EE.G = true := by kernel_rfl
theorem pb105_run : evT EE paT 1000000000 (.call pb105.f pb105.args) pb105.heap (keptK pb105) = some (.bool true) := by kernel_rfl
theorem pb105_h : pb105.holds EE := ent_run envOk paT_holds _ _ pb105_ok pb105_run
-- decani/office.Falls, 9500 steps
noncomputable def pb126 : Ent :=
  ⟨9, [.agg ⟨[iP 4, iP 0, .slice (some ⟨6, 0, none⟩) 2 18446744073709551616, .slice (some ⟨7, 0, none⟩) 1 1, .bool false, .slice none 0 0, .bool false, .slice none 0 0]⟩, iP 0, iP 1], 8,
   gB ++ [(6, .cells true 4 [iP 0, iP 0, iP 1, iP 0, iP 0, iP 1]),
    (7, .cells true 0 [iP 1, iP 1, iP 1])],
   [],
   .tuple ⟨[.agg ⟨[iP 1, iP 1]⟩, iP 0]⟩⟩
theorem pb126_ok : pb126.okS EE.G = true := by kernel_rfl
theorem pb126_run : evT EE paT 1000000000 (.call pb126.f pb126.args) pb126.heap (keptK pb126) = some (.bool true) := by kernel_rfl
theorem pb126_h : pb126.holds EE := ent_run envOk paT_holds _ _ pb126_ok pb126_run
-- decani/office.Kept, 12381 steps
noncomputable def pb147 : Ent :=
  ⟨11, [.agg ⟨[iP 4, iP 0, .slice (some ⟨6, 0, none⟩) 3 18446744073709551616, .slice (some ⟨7, 0, none⟩) 1 1, .bool false, .slice none 0 0, .bool false, .slice none 0 0]⟩, iP 0, iP 0], 8,
   gB ++ [(6, .cells true 4 [iP 0, iP 0, iP 1, iP 0, iP 0, iP 1, iP 0, iP 0, iP 1]),
    (7, .cells true 0 [iP 1, iP 1, iP 1])],
   [],
   .tuple ⟨[iP 2, iP 0]⟩⟩
theorem pb147_ok : pb147.okS EE.G = true := by kernel_rfl
theorem pb147_run : evT EE paT 1000000000 (.call pb147.f pb147.args) pb147.heap (keptK pb147) = some (.bool true) := by kernel_rfl
theorem pb147_h : pb147.holds EE := ent_run envOk paT_holds _ _ pb147_ok pb147_run
-- decani/office.Kept, 12446 steps
noncomputable def pb168 : Ent :=
  ⟨11, [.agg ⟨[iP 4, iP 0, .slice (some ⟨6, 0, none⟩) 3 18446744073709551616, .slice (some ⟨7, 0, none⟩) 1 1, .bool false, .slice none 0 0, .bool false, .slice none 0 0]⟩, iP 0, iP 1], 8,
   gB ++ [(6, .cells true 4 [iP 2, iP 2, iP 1, iP 2, iP 2, iP 1, iP 2, iP 2, iP 1]),
    (7, .cells true 0 [iP 1, iP 1, iP 1])],
   [],
   .tuple ⟨[iP 2, iP 0]⟩⟩
theorem pb168_ok : pb168.okS EE.G = true := by kernel_rfl
theorem pb168_run : evT EE paT 1000000000 (.call pb168.f pb168.args) pb168.heap (keptK pb168) = some (.bool true) := by kernel_rfl
theorem pb168_h : pb168.holds EE := ent_run envOk paT_holds _ _ pb168_ok pb168_run
-- decani/office.Kept, 16134 steps
noncomputable def pb189 : Ent :=
  ⟨11, [.agg ⟨[iP 4, iP 0, .slice (some ⟨6, 0, none⟩) 4 18446744073709551616, .slice (some ⟨7, 0, none⟩) 1 1, .bool false, .slice none 0 0, .bool false, .slice none 0 0]⟩, iP 0, iP 3], 8,
   gB ++ [(6, .cells true 4 [iP 0, iP 0, iP 1, iP 0, iP 0, iP 1, iP 0, iP 0, iP 1, iP 0, iP 0, iP 1]),
    (7, .cells true 0 [iP 1, iP 1, iP 1])],
   [],
   .tuple ⟨[iP 2, iP 0]⟩⟩
theorem pb189_ok : pb189.okS EE.G = true := by kernel_rfl
theorem pb189_run : evT EE paT 1000000000 (.call pb189.f pb189.args) pb189.heap (keptK pb189) = some (.bool true) := by kernel_rfl
theorem pb189_h : pb189.holds EE := ent_run envOk paT_holds _ _ pb189_ok pb189_run
-- decani/office.Falls, 15391 steps
noncomputable def pb210 : Ent :=
  ⟨9, [.agg ⟨[iP 4, iP 0, .slice (some ⟨6, 0, none⟩) 4 18446744073709551616, .slice (some ⟨7, 0, none⟩) 1 1, .bool false, .slice none 0 0, .bool false, .slice none 0 0]⟩, iP 0, iP 3], 8,
   gB ++ [(6, .cells true 4 [iP 2, iP 2, iP 1, iP 2, iP 2, iP 1, iP 2, iP 2, iP 1, iP 2, iP 2, iP 1]),
    (7, .cells true 0 [iP 1, iP 1, iP 1])],
   [],
   .tuple ⟨[.agg ⟨[iP 0, iP 0]⟩, iP 4]⟩⟩
theorem pb210_ok : pb210.okS EE.G = true := by kernel_rfl
theorem pb210_run : evT EE paT 1000000000 (.call pb210.f pb210.args) pb210.heap (keptK pb210) = some (.bool true) := by kernel_rfl
theorem pb210_h : pb210.holds EE := ent_run envOk paT_holds _ _ pb210_ok pb210_run
-- decani/office.Kept, 8324 steps
noncomputable def pb231 : Ent :=
  ⟨11, [.agg ⟨[iP 5, iP 0, .slice (some ⟨6, 0, none⟩) 1 18446744073709551616, .slice (some ⟨7, 0, none⟩) 1 1, .bool false, .slice none 0 0, .bool false, .slice none 0 0]⟩, iP 0, iP 0], 8,
   gB ++ [(6, .cells true 4 [iP 3, iP 3, iP 1]),
    (7, .cells true 0 [iP 1, iP 1, iP 1])],
   [],
   .tuple ⟨[iP 2, iP 0]⟩⟩
theorem pb231_ok : pb231.okS EE.G = true := by kernel_rfl
theorem pb231_run : evT EE paT 1000000000 (.call pb231.f pb231.args) pb231.heap (keptK pb231) = some (.bool true) := by kernel_rfl
theorem pb231_h : pb231.holds EE := ent_run envOk paT_holds _ _ pb231_ok pb231_run
-- decani/office.Kept, 10948 steps
noncomputable def pb252 : Ent :=
  ⟨11, [.agg ⟨[iP 5, iP 0, .slice (some ⟨6, 0, none⟩) 2 18446744073709551616, .slice (some ⟨7, 0, none⟩) 1 1, .bool false, .slice none 0 0, .bool false, .slice none 0 0]⟩, iP 0, iP 1], 8,
   gB ++ [(6, .cells true 4 [iP 2, iP 2, iP 1, iP 2, iP 2, iP 1]),
    (7, .cells true 0 [iP 1, iP 1, iP 1])],
   [],
   .tuple ⟨[iP 2, iP 0]⟩⟩
theorem pb252_ok : pb252.okS EE.G = true := by kernel_rfl
theorem pb252_run : evT EE paT 1000000000 (.call pb252.f pb252.args) pb252.heap (keptK pb252) = some (.bool true) := by kernel_rfl
theorem pb252_h : pb252.holds EE := ent_run envOk paT_holds _ _ pb252_ok pb252_run
-- decani/office.Chief, 14065 steps
noncomputable def pb273 : Ent :=
  ⟨14, [.agg ⟨[iP 5, iP 0, .slice (some ⟨6, 0, none⟩) 3 18446744073709551616, .slice (some ⟨7, 0, none⟩) 1 1, .bool false, .slice none 0 0, .bool false, .slice none 0 0]⟩, iP 0, iP 2], 8,
   gB ++ [(6, .cells true 4 [iP 0, iP 0, iP 1, iP 0, iP 0, iP 1, iP 0, iP 0, iP 1]),
    (7, .cells true 0 [iP 1, iP 1, iP 1])],
   [.cells true 2 [iP 2]],
   .tuple ⟨[.slice (some ⟨8, 0, none⟩) 1 18446744073709551616, iP 0]⟩⟩
theorem pb273_ok : pb273.okS EE.G = true := by kernel_rfl
theorem pb273_run : evT EE paT 1000000000 (.call pb273.f pb273.args) pb273.heap (keptK pb273) = some (.bool true) := by kernel_rfl
theorem pb273_h : pb273.holds EE := ent_run envOk paT_holds _ _ pb273_ok pb273_run
-- decani/office.Kept, 14117 steps
noncomputable def pb294 : Ent :=
  ⟨11, [.agg ⟨[iP 5, iP 0, .slice (some ⟨6, 0, none⟩) 3 18446744073709551616, .slice (some ⟨7, 0, none⟩) 1 1, .bool false, .slice none 0 0, .bool false, .slice none 0 0]⟩, iP 0, iP 1], 8,
   gB ++ [(6, .cells true 4 [iP 3, iP 3, iP 1, iP 3, iP 3, iP 1, iP 3, iP 3, iP 1]),
    (7, .cells true 0 [iP 1, iP 1, iP 1])],
   [],
   .tuple ⟨[iP 2, iP 0]⟩⟩
theorem pb294_ok : pb294.okS EE.G = true := by kernel_rfl
theorem pb294_run : evT EE paT 1000000000 (.call pb294.f pb294.args) pb294.heap (keptK pb294) = some (.bool true) := by kernel_rfl
theorem pb294_h : pb294.holds EE := ent_run envOk paT_holds _ _ pb294_ok pb294_run
-- decani/office.Kept, 17942 steps
noncomputable def pb315 : Ent :=
  ⟨11, [.agg ⟨[iP 5, iP 0, .slice (some ⟨6, 0, none⟩) 4 18446744073709551616, .slice (some ⟨7, 0, none⟩) 1 1, .bool false, .slice none 0 0, .bool false, .slice none 0 0]⟩, iP 0, iP 3], 8,
   gB ++ [(6, .cells true 4 [iP 0, iP 0, iP 1, iP 0, iP 0, iP 1, iP 0, iP 0, iP 1, iP 0, iP 0, iP 1]),
    (7, .cells true 0 [iP 1, iP 1, iP 1])],
   [],
   .tuple ⟨[iP 2, iP 0]⟩⟩
theorem pb315_ok : pb315.okS EE.G = true := by kernel_rfl
theorem pb315_run : evT EE paT 1000000000 (.call pb315.f pb315.args) pb315.heap (keptK pb315) = some (.bool true) := by kernel_rfl
theorem pb315_h : pb315.holds EE := ent_run envOk paT_holds _ _ pb315_ok pb315_run
-- decani/office.Kept, 17905 steps
noncomputable def pb336 : Ent :=
  ⟨11, [.agg ⟨[iP 5, iP 0, .slice (some ⟨6, 0, none⟩) 4 18446744073709551616, .slice (some ⟨7, 0, none⟩) 1 1, .bool false, .slice none 0 0, .bool false, .slice none 0 0]⟩, iP 0, iP 2], 8,
   gB ++ [(6, .cells true 4 [iP 2, iP 2, iP 1, iP 2, iP 2, iP 1, iP 2, iP 2, iP 1, iP 2, iP 2, iP 1]),
    (7, .cells true 0 [iP 1, iP 1, iP 1])],
   [],
   .tuple ⟨[iP 2, iP 0]⟩⟩
theorem pb336_ok : pb336.okS EE.G = true := by kernel_rfl
theorem pb336_run : evT EE paT 1000000000 (.call pb336.f pb336.args) pb336.heap (keptK pb336) = some (.bool true) := by kernel_rfl
theorem pb336_h : pb336.holds EE := ent_run envOk paT_holds _ _ pb336_ok pb336_run
-- decani/office.Falls, 15998 steps
noncomputable def pb357 : Ent :=
  ⟨9, [.agg ⟨[iP 5, iP 0, .slice (some ⟨6, 0, none⟩) 4 18446744073709551616, .slice (some ⟨7, 0, none⟩) 1 1, .bool false, .slice none 0 0, .bool false, .slice none 0 0]⟩, iP 0, iP 3], 8,
   gB ++ [(6, .cells true 4 [iP 4, iP 4, iP 1, iP 4, iP 4, iP 1, iP 4, iP 4, iP 1, iP 4, iP 4, iP 1]),
    (7, .cells true 0 [iP 1, iP 1, iP 1])],
   [],
   .tuple ⟨[.agg ⟨[iP 0, iP 0]⟩, iP 4]⟩⟩
theorem pb357_ok : pb357.okS EE.G = true := by kernel_rfl
theorem pb357_run : evT EE paT 1000000000 (.call pb357.f pb357.args) pb357.heap (keptK pb357) = some (.bool true) := by kernel_rfl
theorem pb357_h : pb357.holds EE := ent_run envOk paT_holds _ _ pb357_ok pb357_run
-- decani/office.Kept, 12227 steps
noncomputable def pb378 : Ent :=
  ⟨11, [.agg ⟨[iP 6, iP 0, .slice (some ⟨6, 0, none⟩) 2 18446744073709551616, .slice (some ⟨7, 0, none⟩) 1 1, .bool false, .slice none 0 0, .bool false, .slice none 0 0]⟩, iP 0, iP 0], 8,
   gB ++ [(6, .cells true 4 [iP 0, iP 0, iP 1, iP 0, iP 0, iP 1]),
    (7, .cells true 0 [iP 1, iP 1, iP 1])],
   [],
   .tuple ⟨[iP 2, iP 0]⟩⟩
theorem pb378_ok : pb378.okS EE.G = true := by kernel_rfl
theorem pb378_run : evT EE paT 1000000000 (.call pb378.f pb378.args) pb378.heap (keptK pb378) = some (.bool true) := by kernel_rfl
theorem pb378_h : pb378.holds EE := ent_run envOk paT_holds _ _ pb378_ok pb378_run
-- decani/office.Kept, 12431 steps
noncomputable def pb399 : Ent :=
  ⟨11, [.agg ⟨[iP 6, iP 0, .slice (some ⟨6, 0, none⟩) 2 18446744073709551616, .slice (some ⟨7, 0, none⟩) 1 1, .bool false, .slice none 0 0, .bool false, .slice none 0 0]⟩, iP 0, iP 1], 8,
   gB ++ [(6, .cells true 4 [iP 3, iP 3, iP 1, iP 3, iP 3, iP 1]),
    (7, .cells true 0 [iP 1, iP 1, iP 1])],
   [],
   .tuple ⟨[iP 2, iP 0]⟩⟩
theorem pb399_ok : pb399.okS EE.G = true := by kernel_rfl
theorem pb399_run : evT EE paT 1000000000 (.call pb399.f pb399.args) pb399.heap (keptK pb399) = some (.bool true) := by kernel_rfl
theorem pb399_h : pb399.holds EE := ent_run envOk paT_holds _ _ pb399_ok pb399_run
-- decani/office.Chief, 15685 steps
noncomputable def pb420 : Ent :=
  ⟨14, [.agg ⟨[iP 6, iP 0, .slice (some ⟨6, 0, none⟩) 3 18446744073709551616, .slice (some ⟨7, 0, none⟩) 1 1, .bool false, .slice none 0 0, .bool false, .slice none 0 0]⟩, iP 0, iP 2], 8,
   gB ++ [(6, .cells true 4 [iP 0, iP 0, iP 1, iP 0, iP 0, iP 1, iP 0, iP 0, iP 1]),
    (7, .cells true 0 [iP 1, iP 1, iP 1])],
   [.cells true 2 [iP 2]],
   .tuple ⟨[.slice (some ⟨8, 0, none⟩) 1 18446744073709551616, iP 0]⟩⟩
theorem pb420_ok : pb420.okS EE.G = true := by kernel_rfl
theorem pb420_run : evT EE paT 1000000000 (.call pb420.f pb420.args) pb420.heap (keptK pb420) = some (.bool true) := by kernel_rfl
theorem pb420_h : pb420.holds EE := ent_run envOk paT_holds _ _ pb420_ok pb420_run
-- decani/office.Chief, 15685 steps
noncomputable def pb441 : Ent :=
  ⟨14, [.agg ⟨[iP 6, iP 0, .slice (some ⟨6, 0, none⟩) 3 18446744073709551616, .slice (some ⟨7, 0, none⟩) 1 1, .bool false, .slice none 0 0, .bool false, .slice none 0 0]⟩, iP 0, iP 3], 8,
   gB ++ [(6, .cells true 4 [iP 3, iP 3, iP 1, iP 3, iP 3, iP 1, iP 3, iP 3, iP 1]),
    (7, .cells true 0 [iP 1, iP 1, iP 1])],
   [.cells true 2 [iP 0]],
   .tuple ⟨[.slice (some ⟨8, 0, none⟩) 1 18446744073709551616, iP 0]⟩⟩
theorem pb441_ok : pb441.okS EE.G = true := by kernel_rfl
theorem pb441_run : evT EE paT 1000000000 (.call pb441.f pb441.args) pb441.heap (keptK pb441) = some (.bool true) := by kernel_rfl
theorem pb441_h : pb441.holds EE := ent_run envOk paT_holds _ _ pb441_ok pb441_run
-- decani/office.Kept, 15124 steps
noncomputable def pb462 : Ent :=
  ⟨11, [.agg ⟨[iP 6, iP 0, .slice (some ⟨6, 0, none⟩) 3 18446744073709551616, .slice (some ⟨7, 0, none⟩) 1 1, .bool false, .slice none 0 0, .bool false, .slice none 0 0]⟩, iP 0, iP 2], 8,
   gB ++ [(6, .cells true 4 [iP 5, iP 5, iP 1, iP 5, iP 5, iP 1, iP 5, iP 5, iP 1]),
    (7, .cells true 0 [iP 1, iP 1, iP 1])],
   [],
   .tuple ⟨[iP 0, iP 0]⟩⟩
theorem pb462_ok : pb462.okS EE.G = true := by kernel_rfl
theorem pb462_run : evT EE paT 1000000000 (.call pb462.f pb462.args) pb462.heap (keptK pb462) = some (.bool true) := by kernel_rfl
theorem pb462_h : pb462.holds EE := ent_run envOk paT_holds _ _ pb462_ok pb462_run
-- decani/office.Chief, 19661 steps
noncomputable def pb483 : Ent :=
  ⟨14, [.agg ⟨[iP 6, iP 0, .slice (some ⟨6, 0, none⟩) 4 18446744073709551616, .slice (some ⟨7, 0, none⟩) 1 1, .bool false, .slice none 0 0, .bool false, .slice none 0 0]⟩, iP 0, iP 3], 8,
   gB ++ [(6, .cells true 4 [iP 1, iP 1, iP 1, iP 1, iP 1, iP 1, iP 1, iP 1, iP 1, iP 1, iP 1, iP 1]),
    (7, .cells true 0 [iP 1, iP 1, iP 1])],
   [.cells true 2 [iP 2]],
   .tuple ⟨[.slice (some ⟨8, 0, none⟩) 1 18446744073709551616, iP 0]⟩⟩
theorem pb483_ok : pb483.okS EE.G = true := by kernel_rfl
theorem pb483_run : evT EE paT 1000000000 (.call pb483.f pb483.args) pb483.heap (keptK pb483) = some (.bool true) := by kernel_rfl
theorem pb483_h : pb483.holds EE := ent_run envOk paT_holds _ _ pb483_ok pb483_run
-- decani/office.Chief, 19573 steps
noncomputable def pb504 : Ent :=
  ⟨14, [.agg ⟨[iP 6, iP 0, .slice (some ⟨6, 0, none⟩) 4 18446744073709551616, .slice (some ⟨7, 0, none⟩) 1 1, .bool false, .slice none 0 0, .bool false, .slice none 0 0]⟩, iP 0, iP 4], 8,
   gB ++ [(6, .cells true 4 [iP 3, iP 3, iP 1, iP 3, iP 3, iP 1, iP 3, iP 3, iP 1, iP 3, iP 3, iP 1]),
    (7, .cells true 0 [iP 1, iP 1, iP 1])],
   [.cells true 2 [iP 1]],
   .tuple ⟨[.slice (some ⟨8, 0, none⟩) 1 18446744073709551616, iP 0]⟩⟩
theorem pb504_ok : pb504.okS EE.G = true := by kernel_rfl
theorem pb504_run : evT EE paT 1000000000 (.call pb504.f pb504.args) pb504.heap (keptK pb504) = some (.bool true) := by kernel_rfl
theorem pb504_h : pb504.holds EE := ent_run envOk paT_holds _ _ pb504_ok pb504_run
-- decani/office.Falls, 17857 steps
noncomputable def pb525 : Ent :=
  ⟨9, [.agg ⟨[iP 6, iP 0, .slice (some ⟨6, 0, none⟩) 4 18446744073709551616, .slice (some ⟨7, 0, none⟩) 1 1, .bool false, .slice none 0 0, .bool false, .slice none 0 0]⟩, iP 0, iP 2], 8,
   gB ++ [(6, .cells true 4 [iP 5, iP 5, iP 1, iP 5, iP 5, iP 1, iP 5, iP 5, iP 1, iP 5, iP 5, iP 1]),
    (7, .cells true 0 [iP 1, iP 1, iP 1])],
   [],
   .tuple ⟨[.agg ⟨[iP 0, iP 0]⟩, iP 4]⟩⟩
theorem pb525_ok : pb525.okS EE.G = true := by kernel_rfl
theorem pb525_run : evT EE paT 1000000000 (.call pb525.f pb525.args) pb525.heap (keptK pb525) = some (.bool true) := by kernel_rfl
theorem pb525_h : pb525.holds EE := ent_run envOk paT_holds _ _ pb525_ok pb525_run
-- decani/office.Chief, 5043 steps
noncomputable def pb563 : Ent :=
  ⟨14, [.agg ⟨[iP 1, iP 0, .slice (some ⟨6, 0, none⟩) 2 18446744073709551616, .slice (some ⟨7, 0, none⟩) 1 1, .bool false, .slice none 0 0, .bool false, .slice none 0 0]⟩, iP 0, iP 0], 8,
   gB ++ [(6, .cells true 4 [iP 0, iP 0, iP 1, iP 0, iP 0, iP 1]),
    (7, .cells true 0 [iP 1, iP 1, iP 1])],
   [.cells true 2 [iP 0]],
   .tuple ⟨[.slice (some ⟨8, 0, none⟩) 1 18446744073709551616, iP 0]⟩⟩
theorem pb563_ok : pb563.okS EE.G = true := by kernel_rfl
theorem pb563_run : evT EE paT 1000000000 (.call pb563.f pb563.args) pb563.heap (keptK pb563) = some (.bool true) := by kernel_rfl
theorem pb563_h : pb563.holds EE := ent_run envOk paT_holds _ _ pb563_ok pb563_run
-- decani/office.Chief, 4503 steps
noncomputable def pb570 : Ent :=
  ⟨14, [.agg ⟨[iP 2, iP 0, .slice (some ⟨6, 0, none⟩) 1 18446744073709551616, .slice (some ⟨7, 0, none⟩) 1 1, .bool false, .slice none 0 0, .bool false, .slice none 0 0]⟩, iP 0, iP 1], 8,
   gB ++ [(6, .cells true 4 [iP 1, iP 1, iP 1]),
    (7, .cells true 0 [iP 1, iP 1, iP 1])],
   [.cells true 2 [iP 0]],
   .tuple ⟨[.slice (some ⟨8, 0, none⟩) 1 18446744073709551616, iP 0]⟩⟩
theorem pb570_ok : pb570.okS EE.G = true := by kernel_rfl
theorem pb570_run : evT EE paT 1000000000 (.call pb570.f pb570.args) pb570.heap (keptK pb570) = some (.bool true) := by kernel_rfl
theorem pb570_h : pb570.holds EE := ent_run envOk paT_holds _ _ pb570_ok pb570_run
end Go.Proofs.YtmjpnohpmfmdlaaGreatDoor
