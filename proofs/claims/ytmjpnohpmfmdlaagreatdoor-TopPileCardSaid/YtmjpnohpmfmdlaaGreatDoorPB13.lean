/- Known calls, part 13: what single calls hand back, at small heaps, by the kernel's own run of the evaluator. No conditions. -/
import Derived.Test.YtmjpnohpmfmdlaaGreatDoorPAT
set_option linter.all false
namespace Go.Proofs.YtmjpnohpmfmdlaaGreatDoor
open Go.Ai
set_option maxRecDepth 1000000
-- decani/office.Kept, 9053 steps
noncomputable def pb13 : Ent :=
  ⟨11, [.agg ⟨[iP 2, iP 0, .slice (some ⟨6, 0, none⟩) 3 18446744073709551616, .slice (some ⟨7, 0, none⟩) 1 1, .bool false, .slice none 0 0, .bool false, .slice none 0 0]⟩, iP 0, iP 0], 8,
   gB ++ [(6, .cells true 4 [iP 0, iP 0, iP 1, iP 0, iP 0, iP 1, iP 0, iP 0, iP 1]),
    (7, .cells true 0 [iP 1, iP 1, iP 1])],
   [],
   .tuple ⟨[iP 2, iP 0]⟩⟩
theorem pb13_ok : pb13.okS EE.G = true := by kernel_rfl
theorem pb13_run : evT EE paT 1000000000 (.call pb13.f pb13.args) pb13.heap (keptK pb13) = some (.bool true) := by kernel_rfl
theorem pb13_h : pb13.holds EE := ent_run envOk paT_holds _ _ pb13_ok pb13_run
-- decani/office.Kept, 11664 steps
noncomputable def pb34 : Ent :=
  ⟨11, [.agg ⟨[iP 2, iP 0, .slice (some ⟨6, 0, none⟩) 4 18446744073709551616, .slice (some ⟨7, 0, none⟩) 1 1, .bool false, .slice none 0 0, .bool false, .slice none 0 0]⟩, iP 0, iP 2], 8,
   gB ++ [(6, .cells true 4 [iP 0, iP 0, iP 1, iP 0, iP 0, iP 1, iP 0, iP 0, iP 1, iP 0, iP 0, iP 1]),
    (7, .cells true 0 [iP 1, iP 1, iP 1])],
   [],
   .tuple ⟨[iP 0, iP 0]⟩⟩
theorem pb34_ok : pb34.okS EE.G = true := by kernel_rfl
theorem pb34_run : evT EE paT 1000000000 (.call pb34.f pb34.args) pb34.heap (keptK pb34) = some (.bool true) := by kernel_rfl
theorem pb34_h : pb34.holds EE := ent_run envOk paT_holds _ _ pb34_ok pb34_run
-- decani/office.Falls, 8119 steps
noncomputable def pb55 : Ent :=
  ⟨9, [.agg ⟨[iP 3, iP 0, .slice (some ⟨6, 0, none⟩) 2 18446744073709551616, .slice (some ⟨7, 0, none⟩) 1 1, .bool false, .slice none 0 0, .bool false, .slice none 0 0]⟩, iP 0, iP 1], 8,
   gB ++ [(6, .cells true 4 [iP 1, iP 1, iP 1, iP 1, iP 1, iP 1]),
    (7, .cells true 0 [iP 1, iP 1, iP 1])],
   [],
   .tuple ⟨[.agg ⟨[iP 2, iP 2]⟩, iP 0]⟩⟩
theorem pb55_ok : pb55.okS EE.G = true := by kernel_rfl
theorem pb55_run : evT EE paT 1000000000 (.call pb55.f pb55.args) pb55.heap (keptK pb55) = some (.bool true) := by kernel_rfl
theorem pb55_h : pb55.holds EE := ent_run envOk paT_holds _ _ pb55_ok pb55_run
-- decani/office.Kept, 10775 steps
noncomputable def pb76 : Ent :=
  ⟨11, [.agg ⟨[iP 3, iP 0, .slice (some ⟨6, 0, none⟩) 3 18446744073709551616, .slice (some ⟨7, 0, none⟩) 1 1, .bool false, .slice none 0 0, .bool false, .slice none 0 0]⟩, iP 0, iP 1], 8,
   gB ++ [(6, .cells true 4 [iP 1, iP 1, iP 1, iP 1, iP 1, iP 1, iP 1, iP 1, iP 1]),
    (7, .cells true 0 [iP 1, iP 1, iP 1])],
   [],
   .tuple ⟨[iP 2, iP 0]⟩⟩
theorem pb76_ok : pb76.okS EE.G = true := by kernel_rfl
theorem pb76_run : evT EE paT 1000000000 (.call pb76.f pb76.args) pb76.heap (keptK pb76) = some (.bool true) := by kernel_rfl
theorem pb76_h : pb76.holds EE := ent_run envOk paT_holds _ _ pb76_ok pb76_run
-- decani/office.Kept, 14193 steps
noncomputable def pb97 : Ent :=
  ⟨11, [.agg ⟨[iP 3, iP 0, .slice (some ⟨6, 0, none⟩) 4 18446744073709551616, .slice (some ⟨7, 0, none⟩) 1 1, .bool false, .slice none 0 0, .bool false, .slice none 0 0]⟩, iP 0, iP 3], 8,
   gB ++ [(6, .cells true 4 [iP 0, iP 0, iP 1, iP 0, iP 0, iP 1, iP 0, iP 0, iP 1, iP 0, iP 0, iP 1]),
    (7, .cells true 0 [iP 1, iP 1, iP 1])],
   [],
   .tuple ⟨[iP 0, iP 0]⟩⟩
theorem pb97_ok : pb97.okS EE.G = true := by kernel_rfl
theorem pb97_run : evT EE paT 1000000000 (.call pb97.f pb97.args) pb97.heap (keptK pb97) = some (.bool true) := by kernel_rfl
theorem pb97_h : pb97.holds EE := ent_run envOk paT_holds _ _ pb97_ok pb97_run
-- decani/office.Falls, 7064 steps
noncomputable def pb118 : Ent :=
  ⟨9, [.agg ⟨[iP 4, iP 0, .slice (some ⟨6, 0, none⟩) 1 18446744073709551616, .slice (some ⟨7, 0, none⟩) 1 1, .bool false, .slice none 0 0, .bool false, .slice none 0 0]⟩, iP 0, iP 0], 8,
   gB ++ [(6, .cells true 4 [iP 1, iP 1, iP 1]),
    (7, .cells true 0 [iP 1, iP 1, iP 1])],
   [],
   .tuple ⟨[.agg ⟨[iP 1, iP 1]⟩, iP 0]⟩⟩
theorem pb118_ok : pb118.okS EE.G = true := by kernel_rfl
theorem pb118_run : evT EE paT 1000000000 (.call pb118.f pb118.args) pb118.heap (keptK pb118) = some (.bool true) := by kernel_rfl
theorem pb118_h : pb118.holds EE := ent_run envOk paT_holds _ _ pb118_ok pb118_run
-- decani/office.Kept, 9516 steps
noncomputable def pb139 : Ent :=
  ⟨11, [.agg ⟨[iP 4, iP 0, .slice (some ⟨6, 0, none⟩) 2 18446744073709551616, .slice (some ⟨7, 0, none⟩) 1 1, .bool false, .slice none 0 0, .bool false, .slice none 0 0]⟩, iP 0, iP 1], 8,
   gB ++ [(6, .cells true 4 [iP 2, iP 2, iP 1, iP 2, iP 2, iP 1]),
    (7, .cells true 0 [iP 1, iP 1, iP 1])],
   [],
   .tuple ⟨[iP 2, iP 0]⟩⟩
theorem pb139_ok : pb139.okS EE.G = true := by kernel_rfl
theorem pb139_run : evT EE paT 1000000000 (.call pb139.f pb139.args) pb139.heap (keptK pb139) = some (.bool true) := by kernel_rfl
theorem pb139_h : pb139.holds EE := ent_run envOk paT_holds _ _ pb139_ok pb139_run
-- decani/office.Chief, 12445 steps
noncomputable def pb160 : Ent :=
  ⟨14, [.agg ⟨[iP 4, iP 0, .slice (some ⟨6, 0, none⟩) 3 18446744073709551616, .slice (some ⟨7, 0, none⟩) 1 1, .bool false, .slice none 0 0, .bool false, .slice none 0 0]⟩, iP 0, iP 2], 8,
   gB ++ [(6, .cells true 4 [iP 1, iP 1, iP 1, iP 1, iP 1, iP 1, iP 1, iP 1, iP 1]),
    (7, .cells true 0 [iP 1, iP 1, iP 1])],
   [.cells true 2 [iP 1]],
   .tuple ⟨[.slice (some ⟨8, 0, none⟩) 1 18446744073709551616, iP 0]⟩⟩
theorem pb160_ok : pb160.okS EE.G = true := by kernel_rfl
theorem pb160_run : evT EE paT 1000000000 (.call pb160.f pb160.args) pb160.heap (keptK pb160) = some (.bool true) := by kernel_rfl
theorem pb160_h : pb160.holds EE := ent_run envOk paT_holds _ _ pb160_ok pb160_run
-- decani/office.Chief, 16045 steps
noncomputable def pb181 : Ent :=
  ⟨14, [.agg ⟨[iP 4, iP 0, .slice (some ⟨6, 0, none⟩) 4 18446744073709551616, .slice (some ⟨7, 0, none⟩) 1 1, .bool false, .slice none 0 0, .bool false, .slice none 0 0]⟩, iP 0, iP 0], 8,
   gB ++ [(6, .cells true 4 [iP 0, iP 0, iP 1, iP 0, iP 0, iP 1, iP 0, iP 0, iP 1, iP 0, iP 0, iP 1]),
    (7, .cells true 0 [iP 1, iP 1, iP 1])],
   [.cells true 2 [iP 0]],
   .tuple ⟨[.slice (some ⟨8, 0, none⟩) 1 18446744073709551616, iP 0]⟩⟩
theorem pb181_ok : pb181.okS EE.G = true := by kernel_rfl
theorem pb181_run : evT EE paT 1000000000 (.call pb181.f pb181.args) pb181.heap (keptK pb181) = some (.bool true) := by kernel_rfl
theorem pb181_h : pb181.holds EE := ent_run envOk paT_holds _ _ pb181_ok pb181_run
-- decani/office.Falls, 15411 steps
noncomputable def pb202 : Ent :=
  ⟨9, [.agg ⟨[iP 4, iP 0, .slice (some ⟨6, 0, none⟩) 4 18446744073709551616, .slice (some ⟨7, 0, none⟩) 1 1, .bool false, .slice none 0 0, .bool false, .slice none 0 0]⟩, iP 0, iP 0], 8,
   gB ++ [(6, .cells true 4 [iP 2, iP 2, iP 1, iP 2, iP 2, iP 1, iP 2, iP 2, iP 1, iP 2, iP 2, iP 1]),
    (7, .cells true 0 [iP 1, iP 1, iP 1])],
   [],
   .tuple ⟨[.agg ⟨[iP 2, iP 2]⟩, iP 0]⟩⟩
theorem pb202_ok : pb202.okS EE.G = true := by kernel_rfl
theorem pb202_run : evT EE paT 1000000000 (.call pb202.f pb202.args) pb202.heap (keptK pb202) = some (.bool true) := by kernel_rfl
theorem pb202_h : pb202.holds EE := ent_run envOk paT_holds _ _ pb202_ok pb202_run
-- decani/office.Chief, 8235 steps
noncomputable def pb223 : Ent :=
  ⟨14, [.agg ⟨[iP 5, iP 0, .slice (some ⟨6, 0, none⟩) 1 18446744073709551616, .slice (some ⟨7, 0, none⟩) 1 1, .bool false, .slice none 0 0, .bool false, .slice none 0 0]⟩, iP 0, iP 0], 8,
   gB ++ [(6, .cells true 4 [iP 0, iP 0, iP 1]),
    (7, .cells true 0 [iP 1, iP 1, iP 1])],
   [.cells true 2 [iP 0]],
   .tuple ⟨[.slice (some ⟨8, 0, none⟩) 1 18446744073709551616, iP 0]⟩⟩
theorem pb223_ok : pb223.okS EE.G = true := by kernel_rfl
theorem pb223_run : evT EE paT 1000000000 (.call pb223.f pb223.args) pb223.heap (keptK pb223) = some (.bool true) := by kernel_rfl
theorem pb223_h : pb223.holds EE := ent_run envOk paT_holds _ _ pb223_ok pb223_run
-- decani/office.Chief, 10859 steps
noncomputable def pb244 : Ent :=
  ⟨14, [.agg ⟨[iP 5, iP 0, .slice (some ⟨6, 0, none⟩) 2 18446744073709551616, .slice (some ⟨7, 0, none⟩) 1 1, .bool false, .slice none 0 0, .bool false, .slice none 0 0]⟩, iP 0, iP 1], 8,
   gB ++ [(6, .cells true 4 [iP 1, iP 1, iP 1, iP 1, iP 1, iP 1]),
    (7, .cells true 0 [iP 1, iP 1, iP 1])],
   [.cells true 2 [iP 0]],
   .tuple ⟨[.slice (some ⟨8, 0, none⟩) 1 18446744073709551616, iP 0]⟩⟩
theorem pb244_ok : pb244.okS EE.G = true := by kernel_rfl
theorem pb244_run : evT EE paT 1000000000 (.call pb244.f pb244.args) pb244.heap (keptK pb244) = some (.bool true) := by kernel_rfl
theorem pb244_h : pb244.holds EE := ent_run envOk paT_holds _ _ pb244_ok pb244_run
-- decani/office.Falls, 14087 steps
noncomputable def pb265 : Ent :=
  ⟨9, [.agg ⟨[iP 5, iP 0, .slice (some ⟨6, 0, none⟩) 3 18446744073709551616, .slice (some ⟨7, 0, none⟩) 1 1, .bool false, .slice none 0 0, .bool false, .slice none 0 0]⟩, iP 0, iP 0], 8,
   gB ++ [(6, .cells true 4 [iP 0, iP 0, iP 1, iP 0, iP 0, iP 1, iP 0, iP 0, iP 1]),
    (7, .cells true 0 [iP 1, iP 1, iP 1])],
   [],
   .tuple ⟨[.agg ⟨[iP 0, iP 0]⟩, iP 0]⟩⟩
theorem pb265_ok : pb265.okS EE.G = true := by kernel_rfl
theorem pb265_run : evT EE paT 1000000000 (.call pb265.f pb265.args) pb265.heap (keptK pb265) = some (.bool true) := by kernel_rfl
theorem pb265_h : pb265.holds EE := ent_run envOk paT_holds _ _ pb265_ok pb265_run
-- decani/office.Chief, 14065 steps
noncomputable def pb286 : Ent :=
  ⟨14, [.agg ⟨[iP 5, iP 0, .slice (some ⟨6, 0, none⟩) 3 18446744073709551616, .slice (some ⟨7, 0, none⟩) 1 1, .bool false, .slice none 0 0, .bool false, .slice none 0 0]⟩, iP 0, iP 3], 8,
   gB ++ [(6, .cells true 4 [iP 2, iP 2, iP 1, iP 2, iP 2, iP 1, iP 2, iP 2, iP 1]),
    (7, .cells true 0 [iP 1, iP 1, iP 1])],
   [.cells true 2 [iP 1]],
   .tuple ⟨[.slice (some ⟨8, 0, none⟩) 1 18446744073709551616, iP 0]⟩⟩
theorem pb286_ok : pb286.okS EE.G = true := by kernel_rfl
theorem pb286_run : evT EE paT 1000000000 (.call pb286.f pb286.args) pb286.heap (keptK pb286) = some (.bool true) := by kernel_rfl
theorem pb286_h : pb286.holds EE := ent_run envOk paT_holds _ _ pb286_ok pb286_run
-- decani/office.Chief, 17853 steps
noncomputable def pb307 : Ent :=
  ⟨14, [.agg ⟨[iP 5, iP 0, .slice (some ⟨6, 0, none⟩) 4 18446744073709551616, .slice (some ⟨7, 0, none⟩) 1 1, .bool false, .slice none 0 0, .bool false, .slice none 0 0]⟩, iP 0, iP 0], 8,
   gB ++ [(6, .cells true 4 [iP 0, iP 0, iP 1, iP 0, iP 0, iP 1, iP 0, iP 0, iP 1, iP 0, iP 0, iP 1]),
    (7, .cells true 0 [iP 1, iP 1, iP 1])],
   [.cells true 2 [iP 0]],
   .tuple ⟨[.slice (some ⟨8, 0, none⟩) 1 18446744073709551616, iP 0]⟩⟩
theorem pb307_ok : pb307.okS EE.G = true := by kernel_rfl
theorem pb307_run : evT EE paT 1000000000 (.call pb307.f pb307.args) pb307.heap (keptK pb307) = some (.bool true) := by kernel_rfl
theorem pb307_h : pb307.holds EE := ent_run envOk paT_holds _ _ pb307_ok pb307_run
-- decani/office.Chief, 17853 steps
noncomputable def pb328 : Ent :=
  ⟨14, [.agg ⟨[iP 5, iP 0, .slice (some ⟨6, 0, none⟩) 4 18446744073709551616, .slice (some ⟨7, 0, none⟩) 1 1, .bool false, .slice none 0 0, .bool false, .slice none 0 0]⟩, iP 0, iP 4], 8,
   gB ++ [(6, .cells true 4 [iP 1, iP 1, iP 1, iP 1, iP 1, iP 1, iP 1, iP 1, iP 1, iP 1, iP 1, iP 1]),
    (7, .cells true 0 [iP 1, iP 1, iP 1])],
   [.cells true 2 [iP 3]],
   .tuple ⟨[.slice (some ⟨8, 0, none⟩) 1 18446744073709551616, iP 0]⟩⟩
theorem pb328_ok : pb328.okS EE.G = true := by kernel_rfl
theorem pb328_run : evT EE paT 1000000000 (.call pb328.f pb328.args) pb328.heap (keptK pb328) = some (.bool true) := by kernel_rfl
theorem pb328_h : pb328.holds EE := ent_run envOk paT_holds _ _ pb328_ok pb328_run
-- decani/office.Kept, 17241 steps
noncomputable def pb349 : Ent :=
  ⟨11, [.agg ⟨[iP 5, iP 0, .slice (some ⟨6, 0, none⟩) 4 18446744073709551616, .slice (some ⟨7, 0, none⟩) 1 1, .bool false, .slice none 0 0, .bool false, .slice none 0 0]⟩, iP 0, iP 3], 8,
   gB ++ [(6, .cells true 4 [iP 3, iP 3, iP 1, iP 3, iP 3, iP 1, iP 3, iP 3, iP 1, iP 3, iP 3, iP 1]),
    (7, .cells true 0 [iP 1, iP 1, iP 1])],
   [],
   .tuple ⟨[iP 0, iP 0]⟩⟩
theorem pb349_ok : pb349.okS EE.G = true := by kernel_rfl
theorem pb349_run : evT EE paT 1000000000 (.call pb349.f pb349.args) pb349.heap (keptK pb349) = some (.bool true) := by kernel_rfl
theorem pb349_h : pb349.holds EE := ent_run envOk paT_holds _ _ pb349_ok pb349_run
-- decani/office.Chief, 9479 steps
noncomputable def pb370 : Ent :=
  ⟨14, [.agg ⟨[iP 6, iP 0, .slice (some ⟨6, 0, none⟩) 1 18446744073709551616, .slice (some ⟨7, 0, none⟩) 1 1, .bool false, .slice none 0 0, .bool false, .slice none 0 0]⟩, iP 0, iP 3], 8,
   gB ++ [(6, .cells true 4 [iP 3, iP 3, iP 1]),
    (7, .cells true 0 [iP 1, iP 1, iP 1])],
   [.cells true 2 [iP 0]],
   .tuple ⟨[.slice (some ⟨8, 0, none⟩) 1 18446744073709551616, iP 0]⟩⟩
theorem pb370_ok : pb370.okS EE.G = true := by kernel_rfl
theorem pb370_run : evT EE paT 1000000000 (.call pb370.f pb370.args) pb370.heap (keptK pb370) = some (.bool true) := by kernel_rfl
theorem pb370_h : pb370.holds EE := ent_run envOk paT_holds _ _ pb370_ok pb370_run
-- decani/office.Chief, 12291 steps
noncomputable def pb391 : Ent :=
  ⟨14, [.agg ⟨[iP 6, iP 0, .slice (some ⟨6, 0, none⟩) 2 18446744073709551616, .slice (some ⟨7, 0, none⟩) 1 1, .bool false, .slice none 0 0, .bool false, .slice none 0 0]⟩, iP 0, iP 2], 8,
   gB ++ [(6, .cells true 4 [iP 2, iP 2, iP 1, iP 2, iP 2, iP 1]),
    (7, .cells true 0 [iP 1, iP 1, iP 1])],
   [.cells true 2 [iP 0]],
   .tuple ⟨[.slice (some ⟨8, 0, none⟩) 1 18446744073709551616, iP 0]⟩⟩
theorem pb391_ok : pb391.okS EE.G = true := by kernel_rfl
theorem pb391_run : evT EE paT 1000000000 (.call pb391.f pb391.args) pb391.heap (keptK pb391) = some (.bool true) := by kernel_rfl
theorem pb391_h : pb391.holds EE := ent_run envOk paT_holds _ _ pb391_ok pb391_run
-- decani/office.Falls, 15707 steps
noncomputable def pb412 : Ent :=
  ⟨9, [.agg ⟨[iP 6, iP 0, .slice (some ⟨6, 0, none⟩) 3 18446744073709551616, .slice (some ⟨7, 0, none⟩) 1 1, .bool false, .slice none 0 0, .bool false, .slice none 0 0]⟩, iP 0, iP 0], 8,
   gB ++ [(6, .cells true 4 [iP 0, iP 0, iP 1, iP 0, iP 0, iP 1, iP 0, iP 0, iP 1]),
    (7, .cells true 0 [iP 1, iP 1, iP 1])],
   [],
   .tuple ⟨[.agg ⟨[iP 0, iP 0]⟩, iP 0]⟩⟩
theorem pb412_ok : pb412.okS EE.G = true := by kernel_rfl
theorem pb412_run : evT EE paT 1000000000 (.call pb412.f pb412.args) pb412.heap (keptK pb412) = some (.bool true) := by kernel_rfl
theorem pb412_h : pb412.holds EE := ent_run envOk paT_holds _ _ pb412_ok pb412_run
-- decani/office.Falls, 15860 steps
noncomputable def pb433 : Ent :=
  ⟨9, [.agg ⟨[iP 6, iP 0, .slice (some ⟨6, 0, none⟩) 3 18446744073709551616, .slice (some ⟨7, 0, none⟩) 1 1, .bool false, .slice none 0 0, .bool false, .slice none 0 0]⟩, iP 0, iP 1], 8,
   gB ++ [(6, .cells true 4 [iP 2, iP 2, iP 1, iP 2, iP 2, iP 1, iP 2, iP 2, iP 1]),
    (7, .cells true 0 [iP 1, iP 1, iP 1])],
   [],
   .tuple ⟨[.agg ⟨[iP 3, iP 3]⟩, iP 0]⟩⟩
theorem pb433_ok : pb433.okS EE.G = true := by kernel_rfl
theorem pb433_run : evT EE paT 1000000000 (.call pb433.f pb433.args) pb433.heap (keptK pb433) = some (.bool true) := by kernel_rfl
theorem pb433_h : pb433.holds EE := ent_run envOk paT_holds _ _ pb433_ok pb433_run
-- decani/office.Falls, 15803 steps
noncomputable def pb454 : Ent :=
  ⟨9, [.agg ⟨[iP 6, iP 0, .slice (some ⟨6, 0, none⟩) 3 18446744073709551616, .slice (some ⟨7, 0, none⟩) 1 1, .bool false, .slice none 0 0, .bool false, .slice none 0 0]⟩, iP 0, iP 2], 8,
   gB ++ [(6, .cells true 4 [iP 4, iP 4, iP 1, iP 4, iP 4, iP 1, iP 4, iP 4, iP 1]),
    (7, .cells true 0 [iP 1, iP 1, iP 1])],
   [],
   .tuple ⟨[.agg ⟨[iP 0, iP 0]⟩, iP 4]⟩⟩
theorem pb454_ok : pb454.okS EE.G = true := by kernel_rfl
theorem pb454_run : evT EE paT 1000000000 (.call pb454.f pb454.args) pb454.heap (keptK pb454) = some (.bool true) := by kernel_rfl
theorem pb454_h : pb454.holds EE := ent_run envOk paT_holds _ _ pb454_ok pb454_run
-- decani/office.Falls, 19734 steps
noncomputable def pb475 : Ent :=
  ⟨9, [.agg ⟨[iP 6, iP 0, .slice (some ⟨6, 0, none⟩) 4 18446744073709551616, .slice (some ⟨7, 0, none⟩) 1 1, .bool false, .slice none 0 0, .bool false, .slice none 0 0]⟩, iP 0, iP 0], 8,
   gB ++ [(6, .cells true 4 [iP 1, iP 1, iP 1, iP 1, iP 1, iP 1, iP 1, iP 1, iP 1, iP 1, iP 1, iP 1]),
    (7, .cells true 0 [iP 1, iP 1, iP 1])],
   [],
   .tuple ⟨[.agg ⟨[iP 1, iP 1]⟩, iP 0]⟩⟩
theorem pb475_ok : pb475.okS EE.G = true := by kernel_rfl
theorem pb475_run : evT EE paT 1000000000 (.call pb475.f pb475.args) pb475.heap (keptK pb475) = some (.bool true) := by kernel_rfl
theorem pb475_h : pb475.holds EE := ent_run envOk paT_holds _ _ pb475_ok pb475_run
-- decani/office.Falls, 19938 steps
noncomputable def pb496 : Ent :=
  ⟨9, [.agg ⟨[iP 6, iP 0, .slice (some ⟨6, 0, none⟩) 4 18446744073709551616, .slice (some ⟨7, 0, none⟩) 1 1, .bool false, .slice none 0 0, .bool false, .slice none 0 0]⟩, iP 0, iP 3], 8,
   gB ++ [(6, .cells true 4 [iP 2, iP 2, iP 1, iP 2, iP 2, iP 1, iP 2, iP 2, iP 1, iP 2, iP 2, iP 1]),
    (7, .cells true 0 [iP 1, iP 1, iP 1])],
   [],
   .tuple ⟨[.agg ⟨[iP 5, iP 5]⟩, iP 0]⟩⟩
theorem pb496_ok : pb496.okS EE.G = true := by kernel_rfl
theorem pb496_run : evT EE paT 1000000000 (.call pb496.f pb496.args) pb496.heap (keptK pb496) = some (.bool true) := by kernel_rfl
theorem pb496_h : pb496.holds EE := ent_run envOk paT_holds _ _ pb496_ok pb496_run
-- decani/office.Kept, 19100 steps
noncomputable def pb517 : Ent :=
  ⟨11, [.agg ⟨[iP 6, iP 0, .slice (some ⟨6, 0, none⟩) 4 18446744073709551616, .slice (some ⟨7, 0, none⟩) 1 1, .bool false, .slice none 0 0, .bool false, .slice none 0 0]⟩, iP 0, iP 2], 8,
   gB ++ [(6, .cells true 4 [iP 4, iP 4, iP 1, iP 4, iP 4, iP 1, iP 4, iP 4, iP 1, iP 4, iP 4, iP 1]),
    (7, .cells true 0 [iP 1, iP 1, iP 1])],
   [],
   .tuple ⟨[iP 0, iP 0]⟩⟩
theorem pb517_ok : pb517.okS EE.G = true := by kernel_rfl
theorem pb517_run : evT EE paT 1000000000 (.call pb517.f pb517.args) pb517.heap (keptK pb517) = some (.bool true) := by kernel_rfl
theorem pb517_h : pb517.holds EE := ent_run envOk paT_holds _ _ pb517_ok pb517_run
-- decani/office.Falls, 6778 steps
noncomputable def pb538 : Ent :=
  ⟨9, [.agg ⟨[iP 1, iP 0, .slice (some ⟨6, 0, none⟩) 3 18446744073709551616, .slice (some ⟨7, 0, none⟩) 1 1, .bool false, .slice none 0 0, .bool false, .slice none 0 0]⟩, iP 0, iP 2], 8,
   gB ++ [(6, .cells true 4 [iP 0, iP 0, iP 1, iP 0, iP 0, iP 1, iP 0, iP 0, iP 1]),
    (7, .cells true 0 [iP 1, iP 1, iP 1])],
   [],
   .tuple ⟨[.agg ⟨[iP 0, iP 0]⟩, iP 4]⟩⟩
theorem pb538_ok : pb538.okS EE.G = true := by kernel_rfl
theorem pb538_run : evT EE paT 1000000000 (.call pb538.f pb538.args) pb538.heap (keptK pb538) = some (.bool true) := by kernel_rfl
theorem pb538_h : pb538.holds EE := ent_run envOk paT_holds _ _ pb538_ok pb538_run
-- decani/office.Falls, 5820 steps
noncomputable def pb554 : Ent :=
  ⟨9, [.agg ⟨[iP 3, iP 0, .slice (some ⟨6, 0, none⟩) 1 18446744073709551616, .slice (some ⟨7, 0, none⟩) 1 1, .bool false, .slice none 0 0, .bool false, .slice none 0 0]⟩, iP 0, iP 0], 8,
   gB ++ [(6, .cells true 4 [iP 1, iP 1, iP 1]),
    (7, .cells true 0 [iP 1, iP 1, iP 1])],
   [],
   .tuple ⟨[.agg ⟨[iP 1, iP 1]⟩, iP 0]⟩⟩
theorem pb554_ok : pb554.okS EE.G = true := by kernel_rfl
theorem pb554_run : evT EE paT 1000000000 (.call pb554.f pb554.args) pb554.heap (keptK pb554) = some (.bool true) := by kernel_rfl
theorem pb554_h : pb554.holds EE := ent_run envOk paT_holds _ _ pb554_ok pb554_run
-- decani/office.Kept, 4439 steps
noncomputable def pb572 : Ent :=
  ⟨11, [.agg ⟨[iP 2, iP 0, .slice (some ⟨6, 0, none⟩) 1 18446744073709551616, .slice (some ⟨7, 0, none⟩) 1 1, .bool false, .slice none 0 0, .bool false, .slice none 0 0]⟩, iP 0, iP 0], 8,
   gB ++ [(6, .cells true 4 [iP 0, iP 0, iP 1]),
    (7, .cells true 0 [iP 1, iP 1, iP 1])],
   [],
   .tuple ⟨[iP 2, iP 0]⟩⟩
theorem pb572_ok : pb572.okS EE.G = true := by kernel_rfl
theorem pb572_run : evT EE paT 1000000000 (.call pb572.f pb572.args) pb572.heap (keptK pb572) = some (.bool true) := by kernel_rfl
theorem pb572_h : pb572.holds EE := ent_run envOk paT_holds _ _ pb572_ok pb572_run
end Go.Proofs.YtmjpnohpmfmdlaaGreatDoor
